import PyProof.Rows.All
import Wide.All
import OpenK.AllK
import Wide.FinOn
import Lean
import PyProof.EqAt
import PyProof.EqKinds
import PyProof.TupleCall
import PyProof.StrOps
import PySem.Challenge.RW_leastdeeds_k01_what_is_a_machine
set_option Elab.async false
set_option linter.all false
set_option maxRecDepth 100000
set_option maxHeartbeats 0
noncomputable section
namespace HD
open PySem PySem.W
def zib (tb : String -> Option Builtin) (p : Program) (w : World) (n0 : Nat) (ann : Option Value) : Nat -> SharedT -> Thread -> Option SharedT
  | 0, _, _ => none
  | n + 1, s, t => match through t with
    | true => some s
    | false => match stepOk n0 ann t with
      | false => none
      | true => match stepT (denote tb) p w s t with
        | some (s', t') => zib tb p w n0 ann n s' t'
        | none => none
theorem zmz {tb : String -> Option Builtin} {p : Program} {w : World} {n0 : Nat} {ann : Option Value} : ∀ {n : Nat} {s s' : SharedT} {t : Thread}, zib tb p w n0 ann n s t = some s' -> topRun tb p w n0 ann n s.abs t = some s'.abs
  | 0, _, _, _, h => by cases h
  | n + 1, s, s', t, h => by
    unfold zib at h
    unfold topRun
    cases he : through t with
    | true => rw [he] at h; cases h; rfl
    | false =>
      rw [he] at h
      cases hk : stepOk n0 ann t with
      | false => rw [hk] at h; cases h
      | true =>
        rw [hk] at h
        cases hs : stepT (denote tb) p w s t with
        | none => rw [hs] at h; cases h
        | some r => obtain ⟨s2, t2⟩ := r; rw [hs] at h; rw [stepT_spec hs]; exact zmz h
def treeOf : List Obj -> Nat -> BT -> BT
  | [], _, t => t
  | o :: r, n, t => treeOf r (n + 1) (t.ins n o)
def zr0 (P : Params) (os : OsState) : SharedT := ⟨treeOf (boot_heap P).objs.toList 0 .nil, (boot_heap P).objs.toList.length, (boot_heap P).life, #[], boot_drawn, boot_toks, os⟩
theorem boot_abs (P : Params) (os : OsState) : (zr0 P os).abs = ⟨boot_heap P, #[], boot_drawn, boot_toks, os⟩ := by kernel_rfl
def zrn (p q : Program) (loose : List Str) (Xt : Shared -> Bool) (g0 : Bool) (h0 : Heap) {α : Type} (Yf : Shared -> α) (s : Shared) :=
  ((staticsOk (importedModules p.main.body) h0 s.heap && namesBound p s.heap && gensDone s && laidKept h0 s.heap), openSeen q loose (importedModules p.main.body) Xt g0 s, Yf s)
theorem zpd {p q : Program} {loose : List Str} {Xt : Shared -> Bool} {α : Type} {Yf : Shared -> α} {Ya : World -> α} {N : Nat} {g0 : Bool} {m0 : Nat} {ann : Option Value}
    (open_ : ∀ w : World, (fencedOpening treeTable p w N).map (fun s => (s.heap, s.gens, s.drawn, s.toks)) = some (boot_heap w.params, Array.mk [], boot_drawn, boot_toks))
    (size : ∀ w : World, ((boot_heap w.params).isNs mainGlobals && (Array.mk ([] : List GenState)).size == 0, (boot_heap w.params).objs.size, (boot_heap w.params).nsMap mainGlobals "__annotations__") = (true, m0, ann))
    (run : ∀ (w : World) (os : OsState), (zib treeTable p w m0 ann N (zr0 w.params os) (topStub p)).map (fun s => zrn p q loose Xt g0 (boot_heap w.params) Yf s.abs) = some (true, openGood q loose, Ya w)) : LeftO p q loose Xt Yf Ya N g0 := fun w => by
  obtain ⟨⟨h, gs, d, k, os⟩, e, e'⟩ := Option.map_eq_some_iff.mp (open_ w)
  obtain ⟨rfl, rfl, rfl, rfl⟩ : h = boot_heap w.params /\ gs = Array.mk [] /\ d = boot_drawn /\ k = boot_toks := by simpa using e'
  obtain ⟨z1, z2, z3⟩ : _ /\ _ /\ _ := by simpa only [Prod.mk.injEq] using size w
  obtain ⟨s1, r, l⟩ := Option.map_eq_some_iff.mp (run w os)
  obtain ⟨l1, l2, l3⟩ : _ /\ _ /\ _ := by simpa only [zrn, Prod.mk.injEq] using l
  have r := zmz r
  rw [boot_abs] at r
  have t : topFrom treeTable p w N ⟨boot_heap w.params, Array.mk [], boot_drawn, boot_toks, os⟩ = some s1.abs := by
    unfold topFrom
    dsimp only
    rw [z1, z2, z3, r]
    show (match staticsOk (importedModules p.main.body) (boot_heap w.params) s1.abs.heap && namesBound p s1.abs.heap && gensDone s1.abs && laidKept (boot_heap w.params) s1.abs.heap with | true => _ | false => _) = _
    rw [l1]
  unfold openEnds
  rw [e]
  show (topFrom treeTable p w N _).map _ = _
  rw [t]
  exact congrArg some (Prod.ext l2 l3)
end HD
namespace K01
open PySem
def zaz (i : Nat) : PySem.Stmt := PySem.Challenge.pw_leastdeeds_k01_what_is_a_machine.main.body.getD i (.Pass ⟨0, 0, 0, 0⟩)
def zch (s : PySem.Stmt) : PySem.Arguments := match s with
  | .FunctionDef _ a _ _ _ _ _ _ _ _ => a
  | _ => ⟨[], [], none, [], [], none, []⟩
def zcg (s : PySem.Stmt) : List PySem.Stmt := match s with
  | .FunctionDef _ _ b _ _ _ _ _ _ _ => b
  | _ => []
def zb0 (s : PySem.Stmt) : PySem.Scope := match s with
  | .FunctionDef _ _ _ _ _ _ sc _ _ _ => sc
  | _ => { kind := .function, names := [], isGenerator := false, isCoroutine := false }
def kh : PySem.Params -> PySem.W.Frag := fun P => [(3, { cls := .type "dict", data := .dict #[⟨PySem.PyData.keyHash P "__name__", .str "__name__" 165, .str "law_leastdeeds_k01_what_is_a_machine" 328⟩, ⟨PySem.PyData.keyHash P "__doc__", .str "__doc__" 166, .none⟩, ⟨PySem.PyData.keyHash P "__package__", .str "__package__" 167, .none⟩, ⟨PySem.PyData.keyHash P "__loader__", .str "__loader__" 168, .builtin "__main__.__loader__#opaque"⟩, ⟨PySem.PyData.keyHash P "__spec__", .str "__spec__" 169, .none⟩, ⟨PySem.PyData.keyHash P "__annotations__", .str "__annotations__" 170, .ref 6⟩, ⟨PySem.PyData.keyHash P "__builtins__", .str "__builtins__" 171, .ref 4⟩, ⟨PySem.PyData.keyHash P "__file__", .str "__file__" 173, .str "/claim/cut.py" 172⟩, ⟨PySem.PyData.keyHash P "__cached__", .str "__cached__" 174, .none⟩, ⟨PySem.PyData.keyHash P "is_between", .str "is_between" 197, .ref 21⟩, ⟨PySem.PyData.keyHash P "LEAST_WORDS", .str "LEAST_WORDS" 201, .int 2 200⟩, ⟨PySem.PyData.keyHash P "MOST_WORDS", .str "MOST_WORDS" 203, .int 4 202⟩, ⟨PySem.PyData.keyHash P "MOST_PLACES", .str "MOST_PLACES" 205, .int 2 204⟩, ⟨PySem.PyData.keyHash P "MOST_DEEDS", .str "MOST_DEEDS" 207, .int 6 206⟩, ⟨PySem.PyData.keyHash P "MOST_COST", .str "MOST_COST" 209, .int 3 208⟩, ⟨PySem.PyData.keyHash P "is_word", .str "is_word" 217, .ref 28⟩, ⟨PySem.PyData.keyHash P "is_place", .str "is_place" 225, .ref 35⟩, ⟨PySem.PyData.keyHash P "is_cost", .str "is_cost" 232, .ref 42⟩, ⟨PySem.PyData.keyHash P "is_tuple_of", .str "is_tuple_of" 240, .ref 49⟩, ⟨PySem.PyData.keyHash P "is_table", .str "is_table" 246, .ref 54⟩, ⟨PySem.PyData.keyHash P "is_double_table", .str "is_double_table" 252, .ref 59⟩, ⟨PySem.PyData.keyHash P "is_turn", .str "is_turn" 264, .ref 66⟩, ⟨PySem.PyData.keyHash P "is_join", .str "is_join" 277, .ref 73⟩, ⟨PySem.PyData.keyHash P "is_move", .str "is_move" 289, .ref 80⟩, ⟨PySem.PyData.keyHash P "is_put", .str "is_put" 301, .ref 87⟩, ⟨PySem.PyData.keyHash P "SORTS", .str "SORTS" 310, .ref 88⟩, ⟨PySem.PyData.keyHash P "is_deed", .str "is_deed" 321, .ref 95⟩, ⟨PySem.PyData.keyHash P "is_machine", .str "is_machine" 327, .ref 100⟩, ⟨PySem.PyData.keyHash P "_law_spread", .str "_law_spread" 341, .ref 107⟩, ⟨PySem.PyData.keyHash P "_law_open", .str "_law_open" 351, .ref 114⟩, ⟨PySem.PyData.keyHash P "_law_anew", .str "_law_anew" 358, .ref 121⟩, ⟨PySem.PyData.keyHash P "_law_take", .str "_law_take" 369, .ref 128⟩, ⟨PySem.PyData.keyHash P "_law_sign_but", .str "_law_sign_but" 375, .ref 133⟩, ⟨PySem.PyData.keyHash P "_law_any_sign", .str "_law_any_sign" 382, .ref 140⟩, ⟨PySem.PyData.keyHash P "_law_signed", .str "_law_signed" 391, .ref 147⟩, ⟨PySem.PyData.keyHash P "_law_is_whole", .str "_law_is_whole" 398, .ref 154⟩, ⟨PySem.PyData.keyHash P "_law_same", .str "_law_same" 404, .ref 159⟩, ⟨PySem.PyData.keyHash P "_law_tab", .str "_law_tab" 410, .ref 164⟩, ⟨PySem.PyData.keyHash P "_law_deed", .str "_law_deed" 416, .ref 169⟩, ⟨PySem.PyData.keyHash P "_law_machine", .str "_law_machine" 430, .ref 176⟩, ⟨PySem.PyData.keyHash P "_law_is_in", .str "_law_is_in" 439, .ref 183⟩, ⟨PySem.PyData.keyHash P "_law_numbers", .str "_law_numbers" 445, .ref 188⟩, ⟨PySem.PyData.keyHash P "_law_is_deed", .str "_law_is_deed" 451, .ref 193⟩, ⟨PySem.PyData.keyHash P "_law_is_machine", .str "_law_is_machine" 457, .ref 198⟩, ⟨PySem.PyData.keyHash P "_law_bent", .str "_law_bent" 472, .ref 205⟩, ⟨PySem.PyData.keyHash P "law", .str "law" 486, .ref 212⟩] 46 }),
  (20, { cls := .type "code", data := .fields #[.str "is_between" 189, .str "is_between" 190, .str "/claim/cut.py" 191, .int 2 0, .int 3 0, .int 0 0, .int 0 0, .int 3 0, .ref 15, .bool true, .int 181 0, .ref 16, .none, .ref 17, .ref 18, .ref 19, .int 195 0, .int 2 0, .str "/claim/cut.py" 196] }),
  (21, { cls := .type "function", data := .func { name := "is_between", qualname := "is_between", params := zch (zaz 1), body := PySem.FuncBody.stmts (zcg (zaz 1)), scope := zb0 (zaz 1), globals := 3, closure := [], defaults := .none, kwdefaults := .none, pyModule := .str "leastdeeds.wholes" 187, code := .ref 20 } }),
  (27, { cls := .type "code", data := .fields #[.str "is_word" 210, .str "is_word" 211, .str "/claim/cut.py" 212, .int 12 0, .int 2 0, .int 0 0, .int 0 0, .int 3 0, .ref 22, .bool true, .int 181 0, .ref 23, .none, .ref 24, .ref 25, .ref 26, .int 215 0, .int 12 0, .str "/claim/cut.py" 216] }),
  (28, { cls := .type "function", data := .func { name := "is_word", qualname := "is_word", params := zch (zaz 8), body := PySem.FuncBody.stmts (zcg (zaz 8)), scope := zb0 (zaz 8), globals := 3, closure := [], defaults := .none, kwdefaults := .none, pyModule := .str "leastdeeds.machines" 198, code := .ref 27 } }),
  (34, { cls := .type "code", data := .fields #[.str "is_place" 218, .str "is_place" 219, .str "/claim/cut.py" 220, .int 14 0, .int 2 0, .int 0 0, .int 0 0, .int 3 0, .ref 29, .bool true, .int 181 0, .ref 30, .none, .ref 31, .ref 32, .ref 33, .int 223 0, .int 14 0, .str "/claim/cut.py" 224] }),
  (35, { cls := .type "function", data := .func { name := "is_place", qualname := "is_place", params := zch (zaz 9), body := PySem.FuncBody.stmts (zcg (zaz 9)), scope := zb0 (zaz 9), globals := 3, closure := [], defaults := .none, kwdefaults := .none, pyModule := .str "leastdeeds.machines" 198, code := .ref 34 } }),
  (41, { cls := .type "code", data := .fields #[.str "is_cost" 226, .str "is_cost" 227, .str "/claim/cut.py" 228, .int 16 0, .int 1 0, .int 0 0, .int 0 0, .int 3 0, .ref 36, .bool true, .int 181 0, .ref 37, .none, .ref 38, .ref 39, .ref 40, .int 230 0, .int 16 0, .str "/claim/cut.py" 231] }),
  (42, { cls := .type "function", data := .func { name := "is_cost", qualname := "is_cost", params := zch (zaz 10), body := PySem.FuncBody.stmts (zcg (zaz 10)), scope := zb0 (zaz 10), globals := 3, closure := [], defaults := .none, kwdefaults := .none, pyModule := .str "leastdeeds.machines" 198, code := .ref 41 } }),
  (48, { cls := .type "code", data := .fields #[.str "is_tuple_of" 233, .str "is_tuple_of" 234, .str "/claim/cut.py" 235, .int 18 0, .int 2 0, .int 0 0, .int 0 0, .int 3 0, .ref 43, .bool true, .int 181 0, .ref 44, .none, .ref 45, .ref 46, .ref 47, .int 238 0, .int 18 0, .str "/claim/cut.py" 239] }),
  (49, { cls := .type "function", data := .func { name := "is_tuple_of", qualname := "is_tuple_of", params := zch (zaz 11), body := PySem.FuncBody.stmts (zcg (zaz 11)), scope := zb0 (zaz 11), globals := 3, closure := [], defaults := .none, kwdefaults := .none, pyModule := .str "leastdeeds.machines" 198, code := .ref 48 } }),
  (53, { cls := .type "code", data := .fields #[.str "is_table" 241, .str "is_table" 242, .str "/claim/cut.py" 243, .int 20 0, .int 2 0, .int 0 0, .int 0 0, .int 3 0, .ref 50, .bool true, .int 181 0, .ref 51, .none, .none, .none, .ref 52, .int 244 0, .int 20 0, .str "/claim/cut.py" 245] }),
  (54, { cls := .type "function", data := .func { name := "is_table", qualname := "is_table", params := zch (zaz 12), body := PySem.FuncBody.stmts (zcg (zaz 12)), scope := zb0 (zaz 12), globals := 3, closure := [], defaults := .none, kwdefaults := .none, pyModule := .str "leastdeeds.machines" 198, code := .ref 53 } }),
  (58, { cls := .type "code", data := .fields #[.str "is_double_table" 247, .str "is_double_table" 248, .str "/claim/cut.py" 249, .int 22 0, .int 2 0, .int 0 0, .int 0 0, .int 3 0, .ref 55, .bool true, .int 181 0, .ref 56, .none, .none, .none, .ref 57, .int 250 0, .int 22 0, .str "/claim/cut.py" 251] }),
  (59, { cls := .type "function", data := .func { name := "is_double_table", qualname := "is_double_table", params := zch (zaz 13), body := PySem.FuncBody.stmts (zcg (zaz 13)), scope := zb0 (zaz 13), globals := 3, closure := [], defaults := .none, kwdefaults := .none, pyModule := .str "leastdeeds.machines" 198, code := .ref 58 } }),
  (65, { cls := .type "code", data := .fields #[.str "is_turn" 253, .str "is_turn" 254, .str "/claim/cut.py" 255, .int 24 0, .int 3 0, .int 0 0, .int 0 0, .int 3 0, .ref 60, .bool true, .int 181 0, .ref 61, .none, .ref 62, .ref 63, .ref 64, .int 262 0, .int 24 0, .str "/claim/cut.py" 263] }),
  (66, { cls := .type "function", data := .func { name := "is_turn", qualname := "is_turn", params := zch (zaz 14), body := PySem.FuncBody.stmts (zcg (zaz 14)), scope := zb0 (zaz 14), globals := 3, closure := [], defaults := .none, kwdefaults := .none, pyModule := .str "leastdeeds.machines" 198, code := .ref 65 } }),
  (72, { cls := .type "code", data := .fields #[.str "is_join" 265, .str "is_join" 266, .str "/claim/cut.py" 267, .int 29 0, .int 3 0, .int 0 0, .int 0 0, .int 3 0, .ref 67, .bool true, .int 181 0, .ref 68, .none, .ref 69, .ref 70, .ref 71, .int 275 0, .int 29 0, .str "/claim/cut.py" 276] }),
  (73, { cls := .type "function", data := .func { name := "is_join", qualname := "is_join", params := zch (zaz 15), body := PySem.FuncBody.stmts (zcg (zaz 15)), scope := zb0 (zaz 15), globals := 3, closure := [], defaults := .none, kwdefaults := .none, pyModule := .str "leastdeeds.machines" 198, code := .ref 72 } }),
  (79, { cls := .type "code", data := .fields #[.str "is_move" 278, .str "is_move" 279, .str "/claim/cut.py" 280, .int 36 0, .int 3 0, .int 0 0, .int 0 0, .int 3 0, .ref 74, .bool true, .int 181 0, .ref 75, .none, .ref 76, .ref 77, .ref 78, .int 287 0, .int 36 0, .str "/claim/cut.py" 288] }),
  (80, { cls := .type "function", data := .func { name := "is_move", qualname := "is_move", params := zch (zaz 16), body := PySem.FuncBody.stmts (zcg (zaz 16)), scope := zb0 (zaz 16), globals := 3, closure := [], defaults := .none, kwdefaults := .none, pyModule := .str "leastdeeds.machines" 198, code := .ref 79 } }),
  (86, { cls := .type "code", data := .fields #[.str "is_put" 290, .str "is_put" 291, .str "/claim/cut.py" 292, .int 41 0, .int 3 0, .int 0 0, .int 0 0, .int 3 0, .ref 81, .bool true, .int 181 0, .ref 82, .none, .ref 83, .ref 84, .ref 85, .int 299 0, .int 41 0, .str "/claim/cut.py" 300] }),
  (87, { cls := .type "function", data := .func { name := "is_put", qualname := "is_put", params := zch (zaz 17), body := PySem.FuncBody.stmts (zcg (zaz 17)), scope := zb0 (zaz 17), globals := 3, closure := [], defaults := .none, kwdefaults := .none, pyModule := .str "leastdeeds.machines" 198, code := .ref 86 } }),
  (88, { cls := .type "dict", data := .dict #[⟨PySem.PyData.keyHash P "turn", .str "turn" 302, .ref 66⟩, ⟨PySem.PyData.keyHash P "join", .str "join" 303, .ref 73⟩, ⟨PySem.PyData.keyHash P "move", .str "move" 304, .ref 80⟩, ⟨PySem.PyData.keyHash P "put", .str "put" 305, .ref 87⟩] 4 }),
  (94, { cls := .type "code", data := .fields #[.str "is_deed" 311, .str "is_deed" 312, .str "/claim/cut.py" 313, .int 47 0, .int 3 0, .int 0 0, .int 0 0, .int 3 0, .ref 89, .bool true, .int 181 0, .ref 90, .none, .ref 91, .ref 92, .ref 93, .int 319 0, .int 47 0, .str "/claim/cut.py" 320] }),
  (95, { cls := .type "function", data := .func { name := "is_deed", qualname := "is_deed", params := zch (zaz 19), body := PySem.FuncBody.stmts (zcg (zaz 19)), scope := zb0 (zaz 19), globals := 3, closure := [], defaults := .none, kwdefaults := .none, pyModule := .str "leastdeeds.machines" 198, code := .ref 94 } }),
  (99, { cls := .type "code", data := .fields #[.str "is_machine" 322, .str "is_machine" 323, .str "/claim/cut.py" 324, .int 55 0, .int 1 0, .int 0 0, .int 0 0, .int 3 0, .ref 96, .bool true, .int 181 0, .ref 97, .none, .none, .none, .ref 98, .int 325 0, .int 55 0, .str "/claim/cut.py" 326] }),
  (100, { cls := .type "function", data := .func { name := "is_machine", qualname := "is_machine", params := zch (zaz 20), body := PySem.FuncBody.stmts (zcg (zaz 20)), scope := zb0 (zaz 20), globals := 3, closure := [], defaults := .none, kwdefaults := .none, pyModule := .str "leastdeeds.machines" 198, code := .ref 99 } }),
  (106, { cls := .type "code", data := .fields #[.str "_law_spread" 330, .str "_law_spread" 331, .str "/claim/cut.py" 332, .int 65 0, .int 2 0, .int 0 0, .int 0 0, .int 3 0, .ref 101, .bool true, .int 181 0, .ref 102, .none, .ref 103, .ref 104, .ref 105, .int 339 0, .int 65 0, .str "/claim/cut.py" 340] }),
  (107, { cls := .type "function", data := .func { name := "_law_spread", qualname := "_law_spread", params := zch (zaz 22), body := PySem.FuncBody.stmts (zcg (zaz 22)), scope := zb0 (zaz 22), globals := 3, closure := [], defaults := .none, kwdefaults := .none, pyModule := .str "law_leastdeeds_k01_what_is_a_machine" 328, code := .ref 106 } }),
  (113, { cls := .type "code", data := .fields #[.str "_law_open" 342, .str "_law_open" 343, .str "/claim/cut.py" 344, .int 74 0, .int 1 0, .int 0 0, .int 0 0, .int 3 0, .ref 108, .bool true, .int 181 0, .ref 109, .none, .ref 110, .ref 111, .ref 112, .int 349 0, .int 74 0, .str "/claim/cut.py" 350] }),
  (114, { cls := .type "function", data := .func { name := "_law_open", qualname := "_law_open", params := zch (zaz 23), body := PySem.FuncBody.stmts (zcg (zaz 23)), scope := zb0 (zaz 23), globals := 3, closure := [], defaults := .none, kwdefaults := .none, pyModule := .str "law_leastdeeds_k01_what_is_a_machine" 328, code := .ref 113 } }),
  (120, { cls := .type "code", data := .fields #[.str "_law_anew" 352, .str "_law_anew" 353, .str "/claim/cut.py" 354, .int 79 0, .int 1 0, .int 0 0, .int 0 0, .int 3 0, .ref 115, .bool true, .int 181 0, .ref 116, .none, .ref 117, .ref 118, .ref 119, .int 356 0, .int 79 0, .str "/claim/cut.py" 357] }),
  (121, { cls := .type "function", data := .func { name := "_law_anew", qualname := "_law_anew", params := zch (zaz 24), body := PySem.FuncBody.stmts (zcg (zaz 24)), scope := zb0 (zaz 24), globals := 3, closure := [], defaults := .none, kwdefaults := .none, pyModule := .str "law_leastdeeds_k01_what_is_a_machine" 328, code := .ref 120 } }),
  (127, { cls := .type "code", data := .fields #[.str "_law_take" 359, .str "_law_take" 360, .str "/claim/cut.py" 361, .int 82 0, .int 2 0, .int 0 0, .int 0 0, .int 3 0, .ref 122, .bool true, .int 181 0, .ref 123, .none, .ref 124, .ref 125, .ref 126, .int 367 0, .int 82 0, .str "/claim/cut.py" 368] }),
  (128, { cls := .type "function", data := .func { name := "_law_take", qualname := "_law_take", params := zch (zaz 25), body := PySem.FuncBody.stmts (zcg (zaz 25)), scope := zb0 (zaz 25), globals := 3, closure := [], defaults := .none, kwdefaults := .none, pyModule := .str "law_leastdeeds_k01_what_is_a_machine" 328, code := .ref 127 } }),
  (132, { cls := .type "code", data := .fields #[.str "_law_sign_but" 370, .str "_law_sign_but" 371, .str "/claim/cut.py" 372, .int 95 0, .int 2 0, .int 0 0, .int 0 0, .int 3 0, .ref 129, .bool true, .int 181 0, .ref 130, .none, .none, .none, .ref 131, .int 373 0, .int 95 0, .str "/claim/cut.py" 374] }),
  (133, { cls := .type "function", data := .func { name := "_law_sign_but", qualname := "_law_sign_but", params := zch (zaz 26), body := PySem.FuncBody.stmts (zcg (zaz 26)), scope := zb0 (zaz 26), globals := 3, closure := [], defaults := .none, kwdefaults := .none, pyModule := .str "law_leastdeeds_k01_what_is_a_machine" 328, code := .ref 132 } }),
  (139, { cls := .type "code", data := .fields #[.str "_law_any_sign" 376, .str "_law_any_sign" 377, .str "/claim/cut.py" 378, .int 100 0, .int 1 0, .int 0 0, .int 0 0, .int 3 0, .ref 134, .bool true, .int 181 0, .ref 135, .none, .ref 136, .ref 137, .ref 138, .int 380 0, .int 100 0, .str "/claim/cut.py" 381] }),
  (140, { cls := .type "function", data := .func { name := "_law_any_sign", qualname := "_law_any_sign", params := zch (zaz 27), body := PySem.FuncBody.stmts (zcg (zaz 27)), scope := zb0 (zaz 27), globals := 3, closure := [], defaults := .none, kwdefaults := .none, pyModule := .str "law_leastdeeds_k01_what_is_a_machine" 328, code := .ref 139 } }),
  (146, { cls := .type "code", data := .fields #[.str "_law_signed" 383, .str "_law_signed" 384, .str "/claim/cut.py" 385, .int 102 0, .int 2 0, .int 0 0, .int 0 0, .int 3 0, .ref 141, .bool true, .int 181 0, .ref 142, .none, .ref 143, .ref 144, .ref 145, .int 389 0, .int 102 0, .str "/claim/cut.py" 390] }),
  (147, { cls := .type "function", data := .func { name := "_law_signed", qualname := "_law_signed", params := zch (zaz 28), body := PySem.FuncBody.stmts (zcg (zaz 28)), scope := zb0 (zaz 28), globals := 3, closure := [], defaults := .none, kwdefaults := .none, pyModule := .str "law_leastdeeds_k01_what_is_a_machine" 328, code := .ref 146 } }),
  (153, { cls := .type "code", data := .fields #[.str "_law_is_whole" 392, .str "_law_is_whole" 393, .str "/claim/cut.py" 394, .int 105 0, .int 1 0, .int 0 0, .int 0 0, .int 3 0, .ref 148, .bool true, .int 181 0, .ref 149, .none, .ref 150, .ref 151, .ref 152, .int 396 0, .int 105 0, .str "/claim/cut.py" 397] }),
  (154, { cls := .type "function", data := .func { name := "_law_is_whole", qualname := "_law_is_whole", params := zch (zaz 29), body := PySem.FuncBody.stmts (zcg (zaz 29)), scope := zb0 (zaz 29), globals := 3, closure := [], defaults := .none, kwdefaults := .none, pyModule := .str "law_leastdeeds_k01_what_is_a_machine" 328, code := .ref 153 } }),
  (158, { cls := .type "code", data := .fields #[.str "_law_same" 399, .str "_law_same" 400, .str "/claim/cut.py" 401, .int 107 0, .int 2 0, .int 0 0, .int 0 0, .int 3 0, .ref 155, .bool true, .int 181 0, .ref 156, .none, .none, .none, .ref 157, .int 402 0, .int 107 0, .str "/claim/cut.py" 403] }),
  (159, { cls := .type "function", data := .func { name := "_law_same", qualname := "_law_same", params := zch (zaz 30), body := PySem.FuncBody.stmts (zcg (zaz 30)), scope := zb0 (zaz 30), globals := 3, closure := [], defaults := .none, kwdefaults := .none, pyModule := .str "law_leastdeeds_k01_what_is_a_machine" 328, code := .ref 158 } }),
  (163, { cls := .type "code", data := .fields #[.str "_law_tab" 405, .str "_law_tab" 406, .str "/claim/cut.py" 407, .int 121 0, .int 2 0, .int 0 0, .int 0 0, .int 3 0, .ref 160, .bool true, .int 181 0, .ref 161, .none, .none, .none, .ref 162, .int 408 0, .int 121 0, .str "/claim/cut.py" 409] }),
  (164, { cls := .type "function", data := .func { name := "_law_tab", qualname := "_law_tab", params := zch (zaz 31), body := PySem.FuncBody.stmts (zcg (zaz 31)), scope := zb0 (zaz 31), globals := 3, closure := [], defaults := .none, kwdefaults := .none, pyModule := .str "law_leastdeeds_k01_what_is_a_machine" 328, code := .ref 163 } }),
  (168, { cls := .type "code", data := .fields #[.str "_law_deed" 411, .str "_law_deed" 412, .str "/claim/cut.py" 413, .int 137 0, .int 3 0, .int 0 0, .int 0 0, .int 3 0, .ref 165, .bool true, .int 181 0, .ref 166, .none, .none, .none, .ref 167, .int 414 0, .int 137 0, .str "/claim/cut.py" 415] }),
  (169, { cls := .type "function", data := .func { name := "_law_deed", qualname := "_law_deed", params := zch (zaz 32), body := PySem.FuncBody.stmts (zcg (zaz 32)), scope := zb0 (zaz 32), globals := 3, closure := [], defaults := .none, kwdefaults := .none, pyModule := .str "law_leastdeeds_k01_what_is_a_machine" 328, code := .ref 168 } }),
  (175, { cls := .type "code", data := .fields #[.str "_law_machine" 417, .str "_law_machine" 418, .str "/claim/cut.py" 419, .int 149 0, .int 4 0, .int 0 0, .int 0 0, .int 3 0, .ref 170, .bool true, .int 181 0, .ref 171, .none, .ref 172, .ref 173, .ref 174, .int 428 0, .int 149 0, .str "/claim/cut.py" 429] }),
  (176, { cls := .type "function", data := .func { name := "_law_machine", qualname := "_law_machine", params := zch (zaz 33), body := PySem.FuncBody.stmts (zcg (zaz 33)), scope := zb0 (zaz 33), globals := 3, closure := [], defaults := .none, kwdefaults := .none, pyModule := .str "law_leastdeeds_k01_what_is_a_machine" 328, code := .ref 175 } }),
  (182, { cls := .type "code", data := .fields #[.str "_law_is_in" 431, .str "_law_is_in" 432, .str "/claim/cut.py" 433, .int 160 0, .int 3 0, .int 0 0, .int 0 0, .int 3 0, .ref 177, .bool true, .int 181 0, .ref 178, .none, .ref 179, .ref 180, .ref 181, .int 437 0, .int 160 0, .str "/claim/cut.py" 438] }),
  (183, { cls := .type "function", data := .func { name := "_law_is_in", qualname := "_law_is_in", params := zch (zaz 34), body := PySem.FuncBody.stmts (zcg (zaz 34)), scope := zb0 (zaz 34), globals := 3, closure := [], defaults := .none, kwdefaults := .none, pyModule := .str "law_leastdeeds_k01_what_is_a_machine" 328, code := .ref 182 } }),
  (187, { cls := .type "code", data := .fields #[.str "_law_numbers" 440, .str "_law_numbers" 441, .str "/claim/cut.py" 442, .int 162 0, .int 4 0, .int 0 0, .int 0 0, .int 3 0, .ref 184, .bool true, .int 181 0, .ref 185, .none, .none, .none, .ref 186, .int 443 0, .int 162 0, .str "/claim/cut.py" 444] }),
  (188, { cls := .type "function", data := .func { name := "_law_numbers", qualname := "_law_numbers", params := zch (zaz 35), body := PySem.FuncBody.stmts (zcg (zaz 35)), scope := zb0 (zaz 35), globals := 3, closure := [], defaults := .none, kwdefaults := .none, pyModule := .str "law_leastdeeds_k01_what_is_a_machine" 328, code := .ref 187 } }),
  (192, { cls := .type "code", data := .fields #[.str "_law_is_deed" 446, .str "_law_is_deed" 447, .str "/claim/cut.py" 448, .int 166 0, .int 3 0, .int 0 0, .int 0 0, .int 3 0, .ref 189, .bool true, .int 181 0, .ref 190, .none, .none, .none, .ref 191, .int 449 0, .int 166 0, .str "/claim/cut.py" 450] }),
  (193, { cls := .type "function", data := .func { name := "_law_is_deed", qualname := "_law_is_deed", params := zch (zaz 36), body := PySem.FuncBody.stmts (zcg (zaz 36)), scope := zb0 (zaz 36), globals := 3, closure := [], defaults := .none, kwdefaults := .none, pyModule := .str "law_leastdeeds_k01_what_is_a_machine" 328, code := .ref 192 } }),
  (197, { cls := .type "code", data := .fields #[.str "_law_is_machine" 452, .str "_law_is_machine" 453, .str "/claim/cut.py" 454, .int 184 0, .int 1 0, .int 0 0, .int 0 0, .int 3 0, .ref 194, .bool true, .int 181 0, .ref 195, .none, .none, .none, .ref 196, .int 455 0, .int 184 0, .str "/claim/cut.py" 456] }),
  (198, { cls := .type "function", data := .func { name := "_law_is_machine", qualname := "_law_is_machine", params := zch (zaz 37), body := PySem.FuncBody.stmts (zcg (zaz 37)), scope := zb0 (zaz 37), globals := 3, closure := [], defaults := .none, kwdefaults := .none, pyModule := .str "law_leastdeeds_k01_what_is_a_machine" 328, code := .ref 197 } }),
  (204, { cls := .type "code", data := .fields #[.str "_law_bent" 458, .str "_law_bent" 459, .str "/claim/cut.py" 460, .int 190 0, .int 3 0, .int 0 0, .int 0 0, .int 3 0, .ref 199, .bool true, .int 181 0, .ref 200, .none, .ref 201, .ref 202, .ref 203, .int 470 0, .int 190 0, .str "/claim/cut.py" 471] }),
  (205, { cls := .type "function", data := .func { name := "_law_bent", qualname := "_law_bent", params := zch (zaz 38), body := PySem.FuncBody.stmts (zcg (zaz 38)), scope := zb0 (zaz 38), globals := 3, closure := [], defaults := .none, kwdefaults := .none, pyModule := .str "law_leastdeeds_k01_what_is_a_machine" 328, code := .ref 204 } }),
  (211, { cls := .type "code", data := .fields #[.str "law" 473, .str "law" 474, .str "/claim/cut.py" 475, .int 207 0, .int 1 0, .int 0 0, .int 0 0, .int 3 0, .ref 206, .bool true, .int 181 0, .ref 207, .none, .ref 208, .ref 209, .ref 210, .int 484 0, .int 207 0, .str "/claim/cut.py" 485] }),
  (212, { cls := .type "function", data := .func { name := "law", qualname := "law", params := zch (zaz 39), body := PySem.FuncBody.stmts (zcg (zaz 39)), scope := zb0 (zaz 39), globals := 3, closure := [], defaults := .none, kwdefaults := .none, pyModule := .str "law_leastdeeds_k01_what_is_a_machine" 328, code := .ref 211 } })]
def kas : List PySem.Addr := [3, 20, 21, 27, 28, 34, 35, 41, 42, 48, 49, 53, 54, 58, 59, 65, 66, 72, 73, 79, 80, 86, 87, 88, 94, 95, 99, 100, 106, 107, 113, 114, 120, 121, 127, 128, 132, 133, 139, 140, 146, 147, 153, 154, 158, 159, 163, 164, 168, 169, 175, 176, 182, 183, 187, 188, 192, 193, 197, 198, 204, 205, 211, 212]
theorem kase : ∀ P, kas = (kh P).map (·.1) := fun _ => by kernel_rfl
def kq : PySem.Program := PySem.W.view PySem.Challenge.pw_leastdeeds_k01_what_is_a_machine [1, 3, 4, 5, 6, 7, 8, 9, 10, 11, 12, 13, 14, 15, 16, 17, 18, 19, 20, 22, 23, 24, 25, 26, 27, 28, 29, 30, 31, 32, 33, 34, 35, 36, 37, 38, 39]
abbrev kH : PySem.W.Hook := PySem.W.kHook kh kas kase
def zll : List PySem.Str := ["SORTS"]
abbrev krow := PySem.Challenge.rw_leastdeeds_k01_what_is_a_machine.row
abbrev kX : PySem.Shared -> Bool := fun s => PySem.W.xlAt kq [] s && PySem.W.recOk (PySem.W.RowW.records krow.toRowW) s
def kR (w : PySem.World) (os : PySem.OsState) := (HD.zib PySem.treeTable PySem.Challenge.pw_leastdeeds_k01_what_is_a_machine w 11 (some (.ref 6)) 2292 (HD.zr0 w.params os) (PySem.W.topStub PySem.Challenge.pw_leastdeeds_k01_what_is_a_machine)).map fun s => HD.zrn PySem.Challenge.pw_leastdeeds_k01_what_is_a_machine kq zll kX true (PySem.W.boot_heap w.params) (fun s => kas.map s.heap.get?) s.abs
def kG (w : PySem.World) := some (true, PySem.W.openGood kq zll, (kh w.params).map fun p => some p.2)
theorem kRs : kR = kR := rfl
theorem kGs : kG = kG := rfl
name_quick kq01 for kR by kRs
name_quick kg01 for kG by kGs
theorem zvo : ∀ (w : PySem.World) (os : PySem.OsState), PySem.W.Fast.kq01 (w.withFollow "special-get-raises" false) os = PySem.W.Fast.kg01 (w.withFollow "special-get-raises" false) := fun w os => by kernel_rfl
theorem zya : ∀ (w : PySem.World) (os : PySem.OsState), PySem.W.Fast.kq01 (w.withFollow "special-get-raises" true) os = PySem.W.Fast.kg01 (w.withFollow "special-get-raises" true) := fun w os => by kernel_rfl
theorem kl : ∀ (w : PySem.World) (os : PySem.OsState), kR w os = kG w := fun w os => by
  rw [PySem.W.Fast.kq01_eq, PySem.W.Fast.kg01_eq]
  exact PySem.W.byRow2 "special-get-raises" (P := fun w => PySem.W.Fast.kq01 w os = PySem.W.Fast.kg01 w) (fun w => zvo w os) (fun w => zya w os) w
theorem kleft : PySem.W.LeftO krow.prog kq zll kX kH.obs kH.val 2292 := HD.zpd (m0 := 11) (ann := some (.ref 6)) (PySem.W.boot_open (by rfl) (by decide) (fun _ => rfl)) (fun w => by kernel_rfl) kl
end K01
namespace L2
open PySem PySem.Spec PyProof.Rows
abbrev Key := Sum Int Str
def zn2 : Key -> Value -> Bool
  | .inl k, v => Value.isInt k v
  | .inr x, v => Value.isStrOf x v
def keyH (w : World) : Key -> Int
  | .inl k => hashInt k
  | .inr x => hashStr w x
theorem zde : ∀ {k : Key} {v : Value}, zn2 k v = true -> (∃ i t, k = Sum.inl i /\ v = Value.int i t) \/ (∃ x t, k = Sum.inr x /\ v = Value.str x t)
  | .inl i, v, h => by
    obtain ⟨t, e⟩ := Value.isInt_shape (k := i) (v := v) h
    exact .inl ⟨i, t, rfl, e⟩
  | .inr x, v, h => by
    obtain ⟨t, e⟩ := Value.isStrOf_shape (x := x) (v := v) h
    exact .inr ⟨x, t, rfl, e⟩
theorem zhv (x : Str) (t : Tok) : zn2 (.inr x) (.str x t) = true := by simp [zn2, Value.isStrOf]
theorem key_ll (a b : Int) : decide ((Sum.inl a : Key) = Sum.inl b) = (a == b) := by
  by_cases e : a = b
  · subst e; simp
  · have h : ¬ (Sum.inl a : Key) = Sum.inl b := fun q => e (Sum.inl.inj q)
    rw [decide_eq_false h]
    exact (beq_eq_false_iff_ne.mpr e).symm
theorem key_rr (a b : Str) : decide ((Sum.inr a : Key) = Sum.inr b) = decide (a = b) := by
  by_cases e : a = b
  · subst e; simp
  · have h : ¬ (Sum.inr a : Key) = Sum.inr b := fun q => e (Sum.inr.inj q)
    rw [decide_eq_false h, decide_eq_false e]
theorem key_lr (a : Int) (b : Str) : decide ((Sum.inl a : Key) = Sum.inr b) = false := decide_eq_false (fun q => nomatch q)
theorem key_rl (a : Str) (b : Int) : decide ((Sum.inr a : Key) = Sum.inl b) = false := decide_eq_false (fun q => nomatch q)
def zig (prog : Program) (w : World) : PySem.KeyKind prog w Key where
  is := zn2
  hash := keyH w
  inj := fun v a b ha hb => by
    rcases zde ha with ⟨i, t, rfl, rfl⟩ | ⟨x, t, rfl, rfl⟩
    · rcases zde hb with ⟨j, u, rfl, e⟩ | ⟨y, u, rfl, e⟩
      · injection e with e1 _; rw [e1]
      · exact nomatch e
    · rcases zde hb with ⟨j, u, rfl, e⟩ | ⟨y, u, rfl, e⟩
      · exact nomatch e
      · injection e with e1 _; rw [e1]
  byValue := fun k v h => by
    rcases zde h with ⟨i, t, rfl, rfl⟩ | ⟨x, t, rfl, rfl⟩ <;> rfl
  pyHash := fun hv h => by
    rcases zde hv with ⟨i, t, rfl, rfl⟩ | ⟨x, t, rfl, rfl⟩
    · exact wpAny_pyHash_int h
    · exact wpAny_pyHash_str h
  eqBool := fun hu hv h => by
    rcases zde hu with ⟨i, t, rfl, rfl⟩ | ⟨x, t, rfl, rfl⟩
    · rcases zde hv with ⟨j, u, rfl, rfl⟩ | ⟨y, u, rfl, rfl⟩
      · rw [key_ll] at h; exact wpAny_eqBool_int h
      · rw [key_lr] at h; exact SeqAt.EqAt.int_str i t y u _ _ _ _ h
    · rcases zde hv with ⟨j, u, rfl, rfl⟩ | ⟨y, u, rfl, rfl⟩
      · rw [key_rl] at h; exact SeqAt.EqAt.str_int x t j u _ _ _ _ h
      · rw [key_rr] at h; exact wpAny_eqBool_str h
  «strs» := fun k x t v h => by
    rcases zde h with ⟨i, u, rfl, e⟩ | ⟨y, u, rfl, e⟩
    · exact nomatch e
    · injection e with e1 _
      subst e1
      cases v <;> rfl
end L2
namespace L2
open PySem PySem.Spec PyProof.Rows
inductive V where
  | non | bl (b : Bool) | int (i : Int) | str (x : Str) | byt (b : Array UInt8) | flt (b : UInt64) | ref (a : Addr) | ty (n : String)
  deriving DecidableEq
def RelV : V -> Value -> Prop
  | .non, u => u = Value.none
  | .bl b, u => u = Value.bool b
  | .int i, u => ∃ t, u = Value.int i t
  | .str x, u => ∃ t, u = Value.str x t
  | .byt b, u => ∃ t, u = Value.bytes b t
  | .flt b, u => ∃ t, u = Value.float b t
  | .ref a, u => u = Value.ref a
  | .ty n, u => u = Value.type n
abbrev Vals : List V -> List Value -> Prop := Paired RelV
theorem Vals.length {xs : List V} {us : List Value} (r : Vals xs us) : xs.length = us.length := Paired.length r
theorem Vals.get : ∀ {xs : List V} {us : List Value} {i : Nat} {x : V}, Vals xs us -> xs[i]? = some x -> ∃ u, us[i]? = some u /\ RelV x u
  | _, _, _, _, .nil, e => by simp at e
  | _, _, 0, _, .cons r _, e => by simp at e; subst e; exact ⟨_, rfl, r⟩
  | _, _, i + 1, x, .cons _ t, e => by
    obtain ⟨u, h1, h2⟩ := Vals.get (i := i) (x := x) t (by simpa using e)
    exact ⟨u, by simpa using h1, h2⟩
theorem Vals.set {x : V} {u : Value} (r : RelV x u) : ∀ {xs : List V} {us : List Value} (i : Nat), Vals xs us -> Vals (xs.set i x) (us.set i u)
  | _, _, _, .nil => .nil
  | _, _, 0, .cons _ t => .cons r t
  | _, _, i + 1, .cons q t => .cons q (Vals.set r i t)
theorem Vals.append : ∀ {xs ys : List V} {us ws : List Value}, Vals xs us -> Vals ys ws -> Vals (xs ++ ys) (us ++ ws)
  | _, _, _, _, .nil, s => s
  | _, _, _, _, .cons r t, s => .cons r (Vals.append t s)
theorem Vals.take : ∀ {xs : List V} {us : List Value} (n : Nat), Vals xs us -> Vals (xs.take n) (us.take n)
  | _, _, 0, _ => .nil
  | _, _, _ + 1, .nil => .nil
  | _, _, n + 1, .cons r t => .cons r (Vals.take n t)
theorem Vals.drop : ∀ {xs : List V} {us : List Value} (n : Nat), Vals xs us -> Vals (xs.drop n) (us.drop n)
  | _, _, 0, r => r
  | _, _, _ + 1, .nil => .nil
  | _, _, n + 1, .cons _ t => Vals.drop n t
def RelO : Option V -> Option Value -> Prop
  | some v, some u => RelV v u
  | none, none => True
  | _, _ => False
def KV {κ : Type} : List (κ × V) -> List (κ × Value) -> Prop := Paired fun (p : κ × V) (q : κ × Value) => p.1 = q.1 /\ RelV p.2 q.2
def kV : Key -> V
  | .inl i => .int i
  | .inr x => .str x
inductive HO where
  | lst (xs : List V)
  | tup (xs : List V)
  | dK (kvs : List (Key × V)) | dT (kvs : List (List Key × V))
  | set (S : Int -> Bool) (n : Nat)
  | ins (C dx : Addr) (fs : List (Str × V))
  | own (x : Addr)
  | xd (fs : List (Str × V))
  | met (f x : Addr)
  | rng (lo hi : Int)
  | frz (o : Obj) (u : HO)
  | tbl (ps : Array Value)
  | ext (φ : Heap -> Prop)
abbrev Hp := Addr -> Option HO
def upd (H : Hp) (a : Addr) (o : HO) : Hp := fun b => if b = a then some o else H b
theorem zc8 {H : Hp} {a : Addr} {o : HO} : upd H a o a = some o := by unfold upd; rw [if_pos rfl]
theorem za6 {H : Hp} {a b : Addr} {o : HO} (h : b ≠ a) : upd H a o b = H b := by unfold upd; rw [if_neg h]
theorem zbl {H : Hp} {a b : Addr} {o : HO} (h : H a = some o) (h' : H b = none) : a ≠ b := by
  intro e; subst e; rw [h] at h'; cases h'
section
variable (P : Program) (w : World)
def zdg (H : Hp) (h : Heap) (a : Addr) : HO -> Prop
  | .lst xs => xs.length ≤ sizeLine /\ ∃ (its : List Value) (n : Nat), Vals xs its /\ h.get? a = some { cls := .type "list", data := .seq its.toArray n }
  | .tup xs => xs.length ≤ sizeLine /\ ∃ its : List Value, Vals xs its /\ IsTup h a its.toArray
  | .dK kvs => kvs.length ≤ sizeLine /\ (a == sysModules) = false /\ ∃ vs, KV kvs vs /\ h.DictOf (zig P w) a vs
  | .dT kvs => kvs.length ≤ sizeLine /\ (a == sysModules) = false /\ ∃ xs : List (List Key × Addr × Value),
      Paired (fun (p : List Key × V) (q : List Key × Addr × Value) => p.1 = q.1 /\ H q.2.1 = some (.tup (p.1.map kV)) /\ RelV p.2 q.2.2) kvs xs /\
      ∃ o es ep, h.get? a = some o /\ o.ExactDict /\ o.data = .dict es ep /\ es.toList = xs.map (entryOfKey (tupleKind (zig P w))) /\ (xs.map (·.1)).Nodup
  | .set S n => h.SetOf (intKind P w) a S n
  | .ins C dx fs => H dx = some (.own a) /\ fs.length ≤ 1000 /\ dx ≠ a /\ h.get? a = some (PySem.W.instObj C dx) /\
      ∃ mA, h.Ns1 dx mA /\ (∀ f, RelO (fs.lookup f) (mA f)) /\ PySem.Within mA (fs.map (·.1))
  | .own _ => ∃ o, h.get? a = some o
  | .xd fs => ∃ mA, h.Ns1 a mA /\ ∀ f, RelO (fs.lookup f) (mA f)
  | .rng lo hi => ∃ t u v, h.get? a = some { cls := .type "range", data := .fields #[.int lo t, .int hi u, .int 1 v] }
  | .frz o u => h.get? a = some o /\ zdg H h a u
  | .tbl ps => h.get? a = some { cls := .none, data := .fields ps }
  | .met f x => h.get? a = some (PySem.W.methodObj (.ref f) (.ref x))
  | .ext φ => φ h /\ (∃ o, h.get? a = some o) /\ ∀ h1 h2 : Heap, φ h1 -> (∀ o, h1.get? a = some o -> h2.get? a = some o) -> φ h2
def HOk (H : Hp) (h : Heap) : Prop := ∀ a o, H a = some o -> zdg P w H h a o
end
section
variable {P : Program} {w : World} {H H' : Hp} {h h' : Heap} {a : Addr} {o : HO}
theorem zdg.lt (x : zdg P w H h a o) : a < h.objs.size := by
  cases o with
  | lst xs => obtain ⟨_, _, _, _, e⟩ := x; exact Heap.lt_size e
  | tup xs => obtain ⟨_, _, _, p⟩ := x; exact p.lt
  | dK kvs => obtain ⟨_, _, _, _, o, _, _, e, _⟩ := x; exact Heap.lt_size e
  | dT kvs => obtain ⟨_, _, _, _, o, _, _, e, _⟩ := x; exact Heap.lt_size e
  | set S n => obtain ⟨o, _, _, _, e, _⟩ := x; exact Heap.lt_size e
  | ins C dx fs => obtain ⟨_, _, _, e, _⟩ := x; exact Heap.lt_size e
  | own y => obtain ⟨_, e⟩ := x; exact Heap.lt_size e
  | xd fs => obtain ⟨_, ⟨_, _, _, e, _⟩, _⟩ := x; exact Heap.lt_size e
  | rng lo hi => obtain ⟨_, _, _, e⟩ := x; exact Heap.lt_size e
  | frz ob u => obtain ⟨e, _⟩ := x; exact Heap.lt_size e
  | tbl ps => exact Heap.lt_size (show h.get? a = some _ from x)
  | met f y => exact Heap.lt_size (show h.get? a = some _ from x)
  | ext φ => obtain ⟨_, ⟨_, e⟩, _⟩ := x; exact Heap.lt_size e
theorem Paired.mapP {α β : Type} {F G : α -> β -> Prop} : ∀ {l₁ : List α} {l₂ : List β}, Paired F l₁ l₂ -> (∀ a b, F a b -> G a b) -> Paired G l₁ l₂
  | _, _, .nil, _ => .nil
  | _, _, .cons r t, f => .cons (f _ _ r) (Paired.mapP t f)
theorem zdg.stay (x : zdg P w H h a o) (k : ∀ b u, (b = a \/ H b = some (.own a)) -> h.get? b = some u -> h'.get? b = some u)
    (ho : ∀ b, H b = some (.own a) -> H' b = some (.own a)) (ht : ∀ b xs, H b = some (.tup xs) -> H' b = some (.tup xs)) : zdg P w H' h' a o := by
  induction o with
  | lst xs => obtain ⟨z, its, n, r, e⟩ := x; exact ⟨z, its, n, r, k _ _ (.inl rfl) e⟩
  | tup xs => obtain ⟨z, its, r, ob, e, c⟩ := x; exact ⟨z, its, r, ob, k _ _ (.inl rfl) e, c⟩
  | dK kvs => obtain ⟨z, y, vs, r, ob, es, ep, e, c⟩ := x; exact ⟨z, y, vs, r, ob, es, ep, k _ _ (.inl rfl) e, c⟩
  | dT kvs =>
    obtain ⟨z, y, xs, r, ob, es, ep, e, c⟩ := x
    exact ⟨z, y, xs, Paired.mapP r fun p q z => ⟨z.1, ht _ _ z.2.1, z.2.2⟩, ob, es, ep, k _ _ (.inl rfl) e, c⟩
  | set S n => obtain ⟨ob, es, ep, t, e, c⟩ := x; exact ⟨ob, es, ep, t, k _ _ (.inl rfl) e, c⟩
  | ins C dx fs =>
    obtain ⟨d, z, ne, e, mA, ⟨od, es, ep, e2, c⟩, r⟩ := x
    exact ⟨ho _ d, z, ne, k _ _ (.inl rfl) e, mA, ⟨od, es, ep, k _ _ (.inr d) e2, c⟩, r⟩
  | own y => obtain ⟨ob, e⟩ := x; exact ⟨ob, k _ _ (.inl rfl) e⟩
  | xd fs => obtain ⟨mA, ⟨od, es, ep, e, c⟩, r⟩ := x; exact ⟨mA, ⟨od, es, ep, k _ _ (.inl rfl) e, c⟩, r⟩
  | rng lo hi => obtain ⟨t, u, v, e⟩ := x; exact ⟨t, u, v, k _ _ (.inl rfl) e⟩
  | frz ob u ih => obtain ⟨e, q⟩ := x; exact ⟨k _ _ (.inl rfl) e, ih q⟩
  | tbl ps =>
    have e : h.get? a = some { cls := .none, data := .fields ps } := x
    show h'.get? a = some { cls := .none, data := .fields ps }
    exact k a _ (.inl rfl) e
  | met f y =>
    have e : h.get? a = some (PySem.W.methodObj (.ref f) (.ref y)) := x
    show h'.get? a = some (PySem.W.methodObj (.ref f) (.ref y))
    exact k a _ (.inl rfl) e
  | ext φ => obtain ⟨p, ⟨o, e⟩, st⟩ := x; exact ⟨st _ _ p fun o q => k _ _ (.inl rfl) q, ⟨o, k _ _ (.inl rfl) e⟩, st⟩
theorem HOk.lt (x : HOk P w H h) (e : H a = some o) : a < h.objs.size := (x a o e).lt
theorem HOk.fresh (x : HOk P w H h) (e : h.objs.size ≤ a) : H a = none := by
  cases q : H a with
  | none => rfl
  | some u => exact absurd (Nat.lt_of_lt_of_le (x.lt q) e) (Nat.lt_irrefl _)
theorem HOk.kept (x : HOk P w H h) (k : ∀ b u, h.get? b = some u -> h'.get? b = some u) : HOk P w H h' := fun a o e =>
  (x a o e).stay (fun b u _ q => k b u q) (fun _ q => q) fun _ _ q => q
theorem HOk.laid (x : HOk P w H h) (k : ∀ b u, h.get? b = some u -> h'.get? b = some u) (hp : h.objs.size ≤ a) (new : zdg P w (upd H a o) h' a o) : HOk P w (upd H a o) h' := fun b u e => by
  have hn := x.fresh hp
  by_cases hb : b = a
  · subst hb; rw [zc8] at e; cases e; exact new
  · rw [za6 hb] at e
    exact (x b u e).stay (fun c v _ q => k c v q) (fun c q => by rw [za6 (zbl q hn)]; exact q) fun c xs q => by rw [za6 (zbl q hn)]; exact q
end
def Rd (H : Hp) (a : Addr) (u : HO) : Prop := H a = some u \/ ∃ o, H a = some (.frz o u)
theorem Rd.of {H : Hp} {a : Addr} {u : HO} (h : H a = some u) : Rd H a u := .inl h
theorem Rd.ok {P : Program} {w : World} {H : Hp} {h : Heap} {a : Addr} {u : HO} (r : Rd H a u) (x : HOk P w H h) : zdg P w H h a u := by
  rcases r with r | ⟨o, r⟩
  · exact x a u r
  · obtain ⟨_, q⟩ := x a _ r
    exact q
def Mut : Option HO -> Prop
  | some (.lst _) => True
  | some (.dK _) => True
  | some (.dT _) => True
  | some (.set _ _) => True
  | some (.ins _ _ _) => True
  | some (.ext _) => True
  | _ => False
section
variable {P : Program} {w : World} {H : Hp} {h h' : Heap} {x e : Addr} {o' : HO}
theorem HOk.write (ok : HOk P w H h) (mu : Mut (H x)) (he : e = x \/ H e = some (.own x)) (k : ∀ b u, b ≠ e -> h.get? b = some u -> h'.get? b = some u) (heo : ∃ u, h'.get? e = some u)
    (new : zdg P w (upd H x o') h' x o') : HOk P w (upd H x o') h' := fun b u q => by
  have nown : ∀ c y, H c = some (.own y) -> c ≠ x := fun c y r z => by subst z; rw [r] at mu; exact mu
  have ntup : ∀ c xs, H c = some (.tup xs) -> c ≠ x := fun c xs r z => by subst z; rw [r] at mu; exact mu
  by_cases hb : b = x
  · subst hb; rw [zc8] at q; cases q; exact new
  · rw [za6 hb] at q
    by_cases hbe : b = e
    · have q' : H b = some (.own x) := by
        rcases he with z | z
        · exact absurd (hbe.trans z) hb
        · rw [hbe]; exact z
      rw [q] at q'; cases q'
      obtain ⟨v, hv⟩ := heo
      exact ⟨v, by rw [hbe]; exact hv⟩
    · refine (ok b u q).stay (fun c v hc r => k c v ?_ r) (fun c r => by rw [za6 (nown c b r)]; exact r) fun c xs r => by rw [za6 (ntup c xs r)]; exact r
      rcases hc with rfl | hc
      · exact hbe
      · rintro rfl
        rcases he with z | z
        · exact nown c b hc z
        · rw [hc] at z; cases z; exact hb rfl
end
structure Un (fs ex : List Addr) (H H' : Hp) (h h' : Heap) : Prop where
  keep : ∀ b o, h.get? b = some o -> H b = none -> b ∉ fs -> b ∉ ex -> h'.get? b = some o
  slot : ∀ b o, h.get? b = some o -> H b = none -> b ∈ fs -> b ∉ ex -> ∃ sl, h'.get? b = some { o with slots := sl }
  free : ∀ b o, h.get? b = some o -> H b = none -> b ∉ ex -> H' b = none
  there : ∀ b o, h.get? b = some o -> b ∉ ex -> ∃ o', h'.get? b = some o'
  tups : ∀ b xs, H b = some (.tup xs) -> H' b = some (.tup xs)
  frzs : ∀ b o u, H b = some (.frz o u) -> H' b = some (.frz o u)
  tbls : ∀ b ps, H b = some (.tbl ps) -> ∃ more, H' b = some (.tbl (ps ++ more))
section
variable {fs fs' ex ex' : List Addr} {H H1 H2 : Hp} {h h1 h2 h' : Heap} {a x e : Addr} {o : HO}
theorem Un.any (u : Un fs ex H H1 h h1) {b : Addr} {ob : Obj} (q : h.get? b = some ob) (n : H b = none) (hx : b ∉ ex) : ∃ sl, h1.get? b = some { ob with slots := sl } := by
  by_cases hb : b ∈ fs
  · exact u.slot b ob q n hb hx
  · exact ⟨ob.slots, u.keep b ob q n hb hx⟩
theorem Un.trans (a : Un fs ex H H1 h h1) (b : Un fs ex H1 H2 h1 h2) : Un fs ex H H2 h h2 where
  keep := fun c ob q n hc hx => b.keep c ob (a.keep c ob q n hc hx) (a.free c ob q n hx) hc hx
  slot := fun c ob q n hc hx => by
    obtain ⟨sl, e1⟩ := a.slot c ob q n hc hx
    obtain ⟨sl', e2⟩ := b.slot c _ e1 (a.free c ob q n hx) hc hx
    exact ⟨sl', e2⟩
  free := fun c ob q n hx => by
    obtain ⟨o', e1⟩ := a.there c ob q hx
    exact b.free c o' e1 (a.free c ob q n hx) hx
  there := fun c ob q hx => by
    obtain ⟨o', e1⟩ := a.there c ob q hx
    exact b.there c o' e1 hx
  tups := fun c xs q => b.tups c xs (a.tups c xs q)
  frzs := fun c ob xs q => b.frzs c ob xs (a.frzs c ob xs q)
  tbls := fun c ps q => by
    obtain ⟨m1, e1⟩ := a.tbls c ps q
    obtain ⟨m2, e2⟩ := b.tbls c _ e1
    exact ⟨m1 ++ m2, by rw [e2, Array.append_assoc]⟩
theorem Un.kept (k : ∀ b u, h.get? b = some u -> h'.get? b = some u) : Un fs ex H H h h' :=
  ⟨fun b ob q _ _ _ => k b ob q, fun b ob q _ _ _ => ⟨ob.slots, k b ob q⟩, fun _ _ _ n _ => n, fun b ob q _ => ⟨ob, k b ob q⟩, fun _ _ q => q, fun _ _ _ q => q, fun _ ps q => ⟨#[], by rw [q]; simp⟩⟩
theorem Un.refl : Un fs ex H H h h := Un.kept fun _ _ q => q
theorem Un.laid (k : ∀ b u, h.get? b = some u -> h'.get? b = some u) (hp : h.objs.size ≤ a) (hn : H a = none) : Un fs ex H (upd H a o) h h' where
  keep := fun b u q _ _ _ => k b u q
  slot := fun b u q _ _ _ => ⟨u.slots, k b u q⟩
  free := fun b u q n _ => by rw [za6 (Nat.ne_of_lt (Nat.lt_of_lt_of_le (Heap.lt_size q) hp))]; exact n
  there := fun b u q _ => ⟨u, k b u q⟩
  tups := fun b xs q => by rw [za6 (zbl q hn)]; exact q
  frzs := fun b u xs q => by rw [za6 (zbl q hn)]; exact q
  tbls := fun b ps q => ⟨#[], by rw [za6 (zbl q hn), q]; simp⟩
theorem Un.write (mu : Mut (H x)) (he : e = x \/ H e = some (.own x)) (k : ∀ b u, b ≠ e -> h.get? b = some u -> h'.get? b = some u) (heo : ∃ u, h'.get? e = some u) : Un fs ex H (upd H x o) h h' := by
  have hx : ∀ b, H b = none -> b ≠ x := fun b n z => by subst z; rw [n] at mu; exact mu
  have hb : ∀ b, H b = none -> b ≠ e := fun b n z => by
    subst z
    rcases he with r | r
    · exact hx b n r
    · rw [n] at r; cases r
  have hm : ∀ b u, H b = some u -> ¬ Mut (some u) -> b ≠ x := fun b u q nm z => by subst z; rw [q] at mu; exact nm mu
  refine ⟨fun b u q n _ _ => k b u (hb b n) q, fun b u q n _ _ => ⟨u.slots, k b u (hb b n) q⟩, fun b u q n _ => by rw [za6 (hx b n)]; exact n, fun b u q _ => ?_,
    fun b xs q => by rw [za6 (hm b _ q fun z => z)]; exact q, fun b u xs q => by rw [za6 (hm b _ q fun z => z)]; exact q, fun b ps q => ⟨#[], by rw [za6 (hm b _ q fun z => z), q]; simp⟩⟩
  by_cases hbe : b = e
  · subst hbe; exact heo
  · exact ⟨u, k b u hbe q⟩
theorem Un.mono (u : Un fs ex H H1 h h1) (hs : ∀ b ∈ fs, b ∈ fs') (hx : ∀ b ∈ ex, b ∈ ex') : Un fs' ex' H H1 h h1 :=
  ⟨fun b ob q n hb he => u.keep b ob q n (fun z => hb (hs b z)) fun z => he (hx b z), fun _ _ q n _ he => u.any q n fun z => he (hx _ z), fun b ob q n he => u.free b ob q n fun z => he (hx b z), fun b ob q he => u.there b ob q fun z => he (hx b z), u.tups, u.frzs, u.tbls⟩
end
def trk (h : Heap) (H : Hp) : List Addr := (List.range h.objs.size).filter fun a => (H a).isSome
def zit (h : Heap) (H : Hp) : Heap := PySem.W.hideAll h (trk h H)
theorem ztt (h : Heap) (H : Hp) : (zit h H).objs.size = h.objs.size := PySem.W.hideAll_size _ _
theorem zvq {h : Heap} {H : Hp} {b : Addr} {o : Obj} (e : h.get? b = some o) (n : H b = none) : (zit h H).get? b = some o :=
  PySem.W.hideAll_get _ e fun hm => by
    have q : (H b).isSome = true := (List.mem_filter.mp hm).2
    rw [n] at q; simp at q
theorem zx6 {h : Heap} {H : Hp} {b : Addr} {o : Obj} (e : (zit h H).get? b = some o) : h.get? b = some o /\ H b = none := by
  have e' : h.get? b = some o := PySem.W.of_hideAll (trk h H) e
  refine ⟨e', ?_⟩
  cases q : H b with
  | none => rfl
  | some x =>
    have hm : b ∈ trk h H := List.mem_filter.mpr ⟨List.mem_range.mpr (Heap.lt_size e'), by simp [q]⟩
    have z : (zit h H).get? b = none := PySem.W.hideAll_none (trk h H) hm
    rw [z] at e; cases e
def zyz (g h : Heap) (L : Addr) : List (Addr × Obj) := (List.range h.objs.size).filterMap fun a => if a = L \/ (g.get? a).isSome = true then none else (h.get? a).map fun o => (a, o)
def rest (g h : Heap) (L d : Addr) : List (Addr × Obj) := (zyz g h L).filter fun p => decide (p.1 ≠ d)
end L2
namespace L2
open PySem PySem.Spec PyProof.Rows
structure Mod (K : PySem.W.Frag) (mg : Str -> Option Value) (base : Heap) : Prop where
  kin : K.In base
  glob : base.Ns mainGlobals mg
  blt : ∃ mb, base.Ns builtinsNs mb /\ ∀ x : Str, x ≠ "__name__" -> mb x = bootBuiltins x
  nolimit : base.NoLimit
structure Cx where
  prog : Program
  w : World
  K : PySem.W.Frag
  mg : Str -> Option Value
  base : Heap
  A : Around
  N : List Str
  s₀ : Shared
  H₀ : Hp
  env : Env
  outer : List Env
  stack : List Env
  ex : List Addr
  fn : Str -> Bool
  calm : Bool
  pn : List (Addr × Obj)
  xe : Value -> Shared -> Prop
def frs (l : List Env) : List Addr := l.filterMap (·.frame)
abbrev Cx.fs (X : Cx) : List Addr := frs X.outer
def Vis (sc : Scope) (x : Str) : Prop := sc.names.lookup x = some .local \/ sc.names.lookup x = some .cell \/ sc.names.lookup x = some .free
def Loc (sc : Scope) (x : Str) : Prop := sc.names.lookup x = some .local \/ sc.names.lookup x = some .cell
def Look (env : Env) (h : Heap) (m : Str -> Option Value) (x : Str) (u : Value) : Prop :=
  (env.kindOf x = some .local /\ m x = some u) \/ ((env.kindOf x = some .cell \/ env.kindOf x = some .free) /\ ∃ c, env.cells.lookup x = some c /\ h.IsCell c (some u))
structure Cx.Ok (X : Cx) : Prop where
  mod : Mod X.K X.mg X.base
  kind : X.env.scope.kind = .function
  glob : X.env.globals = mainGlobals
  blt : X.env.builtins = builtinsNs
  above : X.s₀.heap.objs.size ≤ X.env.locals
  inj : ∀ x y c, X.env.cells.lookup x = some c -> X.env.cells.lookup y = some c -> x = y
  has : ∀ x, (X.env.kindOf x = some .cell \/ X.env.kindOf x = some .free) -> ∃ c, X.env.cells.lookup x = some c
  cab : ∀ x c, X.fn x = true -> X.env.cells.lookup x = some c -> X.s₀.heap.objs.size ≤ c
  hd : X.calm = true -> X.A.handled = none
  frames : X.A.frames = some X.stack
  stk : X.stack = X.outer \/ (X.stack = X.env :: X.outer /\ X.env.frame = some X.env.locals)
  exf : ∀ b ∈ X.ex, b ≠ X.env.locals /\ ∀ x c, X.env.cells.lookup x = some c -> c ≠ b
  bs : ∀ b o, X.base.get? b = some o -> X.s₀.heap.get? b = some o /\ X.H₀ b = none
  bsz : X.base.objs.size ≤ X.s₀.heap.objs.size
  noex : ∀ b o, X.base.get? b = some o -> b ∉ X.ex
  exfs : ∀ b ∈ X.ex, b ∉ X.fs
  funs : X.s₀.heap.FunFrames X.base X.outer
  frf : ∀ b ∈ X.fs, X.H₀ b = none
structure Inv (X : Cx) (pins : List (Addr × Obj)) (σ : List (Option V)) (H : Hp) (s : Shared) : Prop where
  ok : X.Ok
  os : s.os = X.s₀.os
  bare : AllBare s.gens
  base : Un X.fs X.ex X.H₀ H X.s₀.heap s.heap
  loc : ∃ m, s.heap.Ns X.env.locals m /\ ∀ (i : Nat) (x : Str) (v : V), X.N[i]? = some x -> σ[i]? = some (some v) -> Vis X.env.scope x -> ∃ u, RelV v u /\ Look X.env s.heap m x u
  cell : ∀ x c, X.env.cells.lookup x = some c -> ∃ v, s.heap.IsCell c v
  free : H X.env.locals = none
  freeC : ∀ x c, X.env.cells.lookup x = some c -> H c = none
  pin : ∀ p ∈ X.pn ++ pins, s.heap.get? p.1 = some p.2 /\ H p.1 = none /\ p.1 ≠ X.env.locals /\ p.1 ∉ X.fs /\ ∀ v, p.2.data ≠ .cell v
  hok : HOk X.prog X.w H s.heap
  len : σ.length = X.N.length
section
variable {X : Cx} {pins : List (Addr × Obj)} {σ : List (Option V)} {H H' : Hp} {s : Shared} {h' : Heap}
theorem Cx.Ok.nofr (ok : X.Ok) {b : Addr} {o : Obj} (e : X.base.get? b = some o) : b ∉ X.fs := fun hb => by
  have := (ok.funs.mem hb).1
  rw [e] at this; cases this
theorem Inv.bs (I : Inv X pins σ H s) : ∀ b o, X.base.get? b = some o -> s.heap.get? b = some o /\ H b = none := fun b o e =>
  ⟨I.base.keep b o (I.ok.bs b o e).1 (I.ok.bs b o e).2 (I.ok.nofr e) (I.ok.noex b o e), I.base.free b o (I.ok.bs b o e).1 (I.ok.bs b o e).2 (I.ok.noex b o e)⟩
theorem Inv.bk (I : Inv X pins σ H s) : ∀ b o, X.base.get? b = some o -> s.heap.get? b = some o := fun b o e => (I.bs b o e).1
theorem Inv.mod (I : Inv X pins σ H s) : Mod X.K X.mg X.base := I.ok.mod
theorem Inv.kIn (I : Inv X pins σ H s) : X.K.In s.heap := I.ok.mod.kin.keeps I.bk
theorem Inv.nolimit (I : Inv X pins σ H s) : s.heap.NoLimit := I.ok.mod.nolimit.keeps I.bk
theorem Inv.lt (I : Inv X pins σ H s) : X.env.locals < s.heap.objs.size := let ⟨_, hn, _⟩ := I.loc; hn.lt
theorem Inv.sz (I : Inv X pins σ H s) : X.s₀.heap.objs.size ≤ s.heap.objs.size := Nat.le_trans I.ok.above (Nat.le_of_lt I.lt)
theorem Inv.nofs (I : Inv X pins σ H s) {a : Addr} (h : s.heap.objs.size ≤ a) : a ∉ X.fs := fun hb => by
  obtain ⟨_, o, ho, _⟩ := I.ok.funs.mem hb
  exact absurd (Nat.lt_of_lt_of_le (Heap.lt_size ho) (Nat.le_trans I.sz h)) (Nat.lt_irrefl _)
theorem Inv.cne (I : Inv X pins σ H s) : ∀ x c, X.env.cells.lookup x = some c -> c ≠ X.env.locals := fun x c e z => by
  obtain ⟨v, o, ho, hd⟩ := I.cell x c e
  obtain ⟨m, ⟨o', es, ep, ho', hd', _⟩, _⟩ := I.loc
  rw [z, ho'] at ho; cases ho; rw [hd'] at hd; cases hd
theorem Inv.funs (I : Inv X pins σ H s) : s.heap.FunFrames X.base X.outer := by
  have all : ∀ (l : List Env), (∀ b ∈ frs l, b ∈ X.fs) -> X.s₀.heap.FunFrames X.base l -> s.heap.FunFrames X.base l := by
    intro l
    induction l with
    | nil => intro _ _; trivial
    | cons env r ih =>
      intro hs hl
      obtain ⟨hk, ⟨L, o, hf, hn, ho, hd⟩, hr⟩ := hl
      have hL : L ∈ X.fs := hs L (by unfold frs; rw [List.filterMap_cons, hf]; exact List.mem_cons_self)
      obtain ⟨sl, e⟩ := I.base.slot L o ho (I.ok.frf L hL) hL fun z => I.ok.exfs L z hL
      exact ⟨hk, ⟨L, _, hf, hn, e, hd⟩, ih (fun b hb => hs b (by unfold frs; rw [List.filterMap_cons, hf]; exact List.mem_cons_of_mem _ hb)) hr⟩
  exact all X.outer (fun _ hb => hb) I.ok.funs
theorem Inv.stack (I : Inv X pins σ H s) : s.heap.FunFrames X.base X.stack := by
  rcases I.ok.stk with e | ⟨e, hf⟩
  · rw [e]; exact I.funs
  · rw [e]
    obtain ⟨m, hn, _⟩ := I.loc
    refine .cons (by rw [I.ok.kind]; decide) hf hn ?_ I.funs
    exact Heap.get?_none_of_le (Nat.le_trans I.ok.bsz I.ok.above)
theorem Inv.stkSub (I : Inv X pins σ H s) : ∀ b ∈ frs X.stack, b ∈ X.env.locals :: X.fs := fun b hb => by
  rcases I.ok.stk with e | ⟨e, hf⟩
  · rw [e] at hb; exact List.mem_cons_of_mem _ hb
  · rw [e] at hb
    unfold frs at hb
    rw [List.filterMap_cons, hf] at hb
    exact hb
theorem Inv.stkFree (I : Inv X pins σ H s) : ∀ b ∈ frs X.stack, H b = none := fun b hb => by
  rcases List.mem_cons.mp (I.stkSub b hb) with e | hb
  · rw [e]; exact I.free
  · obtain ⟨_, o, ho, _⟩ := I.ok.funs.mem hb
    exact I.base.free b o ho (I.ok.frf b hb) fun z => I.ok.exfs b z hb
theorem Inv.step {g' : Array GenState} {t' : Nat} {d' : Drawn} {ch : List Addr} (I : Inv X pins σ H s)
    (hch : ∀ b ∈ ch, (b ∈ X.ex \/ X.s₀.heap.objs.size ≤ b) /\ b ≠ X.env.locals /\ (∀ x c, X.env.cells.lookup x = some c -> c ≠ b) /\ ∀ p ∈ X.pn ++ pins, p.1 ≠ b)
    (keep : ∀ b o, b ≠ X.env.locals -> b ∉ X.fs -> b ∉ ch -> s.heap.get? b = some o -> H b = none -> h'.get? b = some o)
    (slot : ∀ b o, b ≠ X.env.locals -> b ∈ X.fs -> b ∉ ch -> s.heap.get? b = some o -> H b = none -> ∃ sl, h'.get? b = some { o with slots := sl }) (free : ∀ b o, b ∉ ch -> s.heap.get? b = some o -> H b = none -> H' b = none)
    (there : ∀ b o, b ∉ ch -> s.heap.get? b = some o -> ∃ o', h'.get? b = some o')
    (tups : ∀ b xs, H b = some (.tup xs) -> H' b = some (.tup xs)) (frzs : ∀ b o u, H b = some (.frz o u) -> H' b = some (.frz o u)) (tbls : ∀ b ps, H b = some (.tbl ps) -> ∃ more, H' b = some (.tbl (ps ++ more)))
    (ns : ∀ m, s.heap.Ns X.env.locals m -> h'.Ns X.env.locals m) (hok : HOk X.prog X.w H' h') (hg : AllBare g') :
    Inv X pins σ H' { s with heap := h', gens := g', drawn := d', toks := t' } := by
  have neL : ∀ b o, X.s₀.heap.get? b = some o -> b ≠ X.env.locals := fun b o e => Nat.ne_of_lt (Nat.lt_of_lt_of_le (Heap.lt_size e) I.ok.above)
  have neC : ∀ b o, X.s₀.heap.get? b = some o -> b ∉ X.ex -> b ∉ ch := fun b o e hx hb => by
    rcases (hch b hb).1 with z | z
    · exact hx z
    · exact absurd (Nat.lt_of_lt_of_le (Heap.lt_size e) z) (Nat.lt_irrefl _)
  have cellK : ∀ x c, X.env.cells.lookup x = some c -> ∀ v, s.heap.IsCell c v -> h'.IsCell c v := fun x c e v ⟨o, ho, hd⟩ => by
    have nch : c ∉ ch := fun z => (hch c z).2.2.1 x c e rfl
    by_cases hc : c ∈ X.fs
    · obtain ⟨sl, q⟩ := slot c o (I.cne x c e) hc nch ho (I.freeC x c e)
      exact ⟨_, q, hd⟩
    · exact ⟨o, keep c o (I.cne x c e) hc nch ho (I.freeC x c e), hd⟩
  refine ⟨I.ok, I.os, hg, ⟨fun b o e n hb hx => ?_, fun b o e n hb hx => ?_, fun b o e n hx => ?_, fun b o e hx => ?_, fun b xs e => tups b xs (I.base.tups b xs e), fun b o xs e => frzs b o xs (I.base.frzs b o xs e), fun b ps e => ?_⟩, ?_, fun x c e => ?_, ?_, fun x c e => ?_, fun p hp => ?_, hok, I.len⟩
  · exact keep b o (neL b o e) hb (neC b o e hx) (I.base.keep b o e n hb hx) (I.base.free b o e n hx)
  · obtain ⟨sl, e1⟩ := I.base.slot b o e n hb hx
    obtain ⟨sl', e2⟩ := slot b _ (neL b o e) hb (neC b o e hx) e1 (I.base.free b o e n hx)
    exact ⟨sl', e2⟩
  · obtain ⟨o', e1⟩ := I.base.there b o e hx
    exact free b o' (neC b o e hx) e1 (I.base.free b o e n hx)
  · obtain ⟨o', e1⟩ := I.base.there b o e hx
    exact there b o' (neC b o e hx) e1
  · obtain ⟨m1, e1⟩ := I.base.tbls b ps e
    obtain ⟨m2, e2⟩ := tbls b _ e1
    exact ⟨m1 ++ m2, by rw [e2, Array.append_assoc]⟩
  · obtain ⟨m, hn, hl⟩ := I.loc
    refine ⟨m, ns m hn, fun i x v e1 e2 e3 => ?_⟩
    obtain ⟨u, r, l⟩ := hl i x v e1 e2 e3
    refine ⟨u, r, ?_⟩
    rcases l with l | ⟨k, c, e, z⟩
    · exact .inl l
    · exact .inr ⟨k, c, e, cellK x c e _ z⟩
  · obtain ⟨v, z⟩ := I.cell x c e
    exact ⟨v, cellK x c e v z⟩
  · obtain ⟨m, ⟨o, _, _, ho, _⟩, _⟩ := I.loc
    exact free _ o (fun z => (hch _ z).2.1 rfl) ho I.free
  · obtain ⟨v, o, ho, hd⟩ := I.cell x c e
    exact free c o (fun z => (hch c z).2.2.1 x c e rfl) ho (I.freeC x c e)
  · obtain ⟨e, n, ne, nf, d⟩ := I.pin p hp
    have nch : p.1 ∉ ch := fun z => (hch p.1 z).2.2.2 p hp rfl
    exact ⟨keep p.1 p.2 ne nf nch e n, free p.1 p.2 nch e n, ne, nf, d⟩
theorem Inv.un {t' : Nat} (I : Inv X pins σ H s) (u : Un X.fs [] H H' s.heap h') (hok : HOk X.prog X.w H' h') : Inv X pins σ H' { s with heap := h', toks := t' } := by
  obtain ⟨m, ⟨o, es, ep, ho, r⟩, _⟩ := id I.loc
  obtain ⟨sl, hL⟩ := u.any ho I.free (by simp)
  exact I.step (g' := s.gens) (d' := s.drawn) (ch := []) (fun _ z => nomatch z) (fun b o _ hb _ e n => u.keep b o e n hb (by simp)) (fun b o _ hb _ e n => u.slot b o e n hb (by simp)) (fun b o _ e n => u.free b o e n (by simp)) (fun b o _ e => u.there b o e (by simp)) u.tups u.frzs u.tbls (fun m' hm => by
    obtain ⟨o', es', ep', ho', r'⟩ := hm
    rw [ho] at ho'; cases ho'
    exact ⟨_, es', ep', hL, r'⟩) hok I.bare
theorem Inv.call {g' : Array GenState} {t' : Nat} {d' : Drawn} {ch : List Addr} (I : Inv X pins σ H s) (u : Un (frs X.stack) ch H H' s.heap h') (hok : HOk X.prog X.w H' h') (hg : AllBare g')
    (hch : ∀ b ∈ ch, (b ∈ X.ex \/ X.s₀.heap.objs.size ≤ b) /\ b ≠ X.env.locals /\ (∀ x c, X.env.cells.lookup x = some c -> c ≠ b) /\ ∀ p ∈ X.pn ++ pins, p.1 ≠ b) :
    Inv X pins σ H' { s with heap := h', gens := g', drawn := d', toks := t' } := by
  obtain ⟨m, ⟨o, es, ep, ho, r⟩, _⟩ := id I.loc
  obtain ⟨sl, hL⟩ := u.any ho I.free fun z => (hch _ z).2.1 rfl
  exact I.step (ch := ch) hch (fun b o hL hb hc e n => u.keep b o e n (fun z => (List.mem_cons.mp (I.stkSub b z)).elim hL hb) hc) (fun b o _ _ hc e n => u.any e n hc) (fun b o hc e n => u.free b o e n hc) (fun b o hc e => u.there b o e hc) u.tups u.frzs u.tbls (fun m' hm => by
    obtain ⟨o', es', ep', ho', r'⟩ := hm
    rw [ho] at ho'; cases ho'
    exact ⟨_, es', ep', hL, r'⟩) hok hg
theorem Inv.turned {t' : Nat} {it : Addr} (I : Inv X pins σ H s) (k : ∀ b o, b ≠ it -> s.heap.get? b = some o -> h'.get? b = some o) (hn : H it = none) (hL : it ≠ X.env.locals)
    (h1 : it ∈ X.ex \/ X.s₀.heap.objs.size ≤ it) (h2 : ∀ x c, X.env.cells.lookup x = some c -> c ≠ it) (h3 : ∀ p ∈ X.pn ++ pins, p.1 ≠ it) : Inv X pins σ H { s with heap := h', toks := t' } := by
  have nit : ∀ b u, H b = some u -> b ≠ it := fun b u e z => by rw [z, hn] at e; cases e
  refine I.step (g' := s.gens) (d' := s.drawn) (ch := [it]) (fun b hb => ?_) (fun b o _ _ hc e _ => k b o (fun z => hc (by simp [z])) e) (fun b o _ _ hc e _ => ⟨o.slots, k b o (fun z => hc (by simp [z])) e⟩) (fun _ _ _ _ n => n)
    (fun b o hc e => ⟨o, k b o (fun z => hc (by simp [z])) e⟩) (fun _ _ e => e) (fun _ _ _ e => e) (fun b ps e => ⟨#[], by rw [e]; simp⟩) (fun m hm => ?_) (fun b u e => ?_) I.bare
  · have e : b = it := by simpa using hb
    subst e
    exact ⟨h1, hL, h2, h3⟩
  · obtain ⟨o, es, ep, ho, r⟩ := hm
    exact ⟨o, es, ep, k _ o (Ne.symm hL) ho, r⟩
  · refine (I.hok b u e).stay (fun c v hc q => k c v ?_ q) (fun _ q => q) fun _ _ q => q
    rcases hc with z | z
    · rw [z]; exact nit b u e
    · exact nit c _ z
theorem Inv.tok (I : Inv X pins σ H s) (t : Nat) : Inv X pins σ H { s with toks := t } := I.un (h' := s.heap) (t' := t) Un.refl I.hok
theorem Inv.kept {t' : Nat} (I : Inv X pins σ H s) (k : ∀ b u, s.heap.get? b = some u -> h'.get? b = some u) : Inv X pins σ H { s with heap := h', toks := t' } := I.un (Un.kept k) (I.hok.kept k)
theorem Inv.laid {a : Addr} {o : HO} {t' : Nat} (I : Inv X pins σ H s) (k : ∀ b u, s.heap.get? b = some u -> h'.get? b = some u) (hp : s.heap.objs.size ≤ a) (new : zdg X.prog X.w (upd H a o) h' a o) :
    Inv X pins σ (upd H a o) { s with heap := h', toks := t' } := I.un (Un.laid k hp (I.hok.fresh hp)) (I.hok.laid k hp new)
theorem Inv.write {x e : Addr} {o : HO} {t' : Nat} (I : Inv X pins σ H s) (mu : Mut (H x)) (he : e = x \/ H e = some (.own x)) (k : ∀ b u, b ≠ e -> s.heap.get? b = some u -> h'.get? b = some u) (heo : ∃ u, h'.get? e = some u)
    (new : zdg X.prog X.w (upd H x o) h' x o) : Inv X pins σ (upd H x o) { s with heap := h', toks := t' } := I.un (Un.write mu he k heo) (I.hok.write mu he k heo new)
theorem Inv.weak {σ' : List (Option V)} (I : Inv X pins σ H s) (hl : σ'.length = σ.length) (w : ∀ (i : Nat) v, σ'[i]? = some (some v) -> σ[i]? = some (some v)) : Inv X pins σ' H s :=
  ⟨I.ok, I.os, I.bare, I.base, let ⟨m, hn, hl'⟩ := I.loc; ⟨m, hn, fun i x v e1 e2 e3 => hl' i x v e1 (w i v e2) e3⟩, I.cell, I.free, I.freeC, I.pin, I.hok, hl.trans I.len⟩
theorem Inv.pins_of {pins' : List (Addr × Obj)} (I : Inv X pins σ H s) (h : ∀ p ∈ pins', s.heap.get? p.1 = some p.2 /\ H p.1 = none /\ p.1 ≠ X.env.locals /\ p.1 ∉ X.fs /\ ∀ v, p.2.data ≠ .cell v) : Inv X pins' σ H s :=
  ⟨I.ok, I.os, I.bare, I.base, I.loc, I.cell, I.free, I.freeC, fun p hp => (List.mem_append.mp hp).elim (fun z => I.pin p (List.mem_append_left _ z)) (h p), I.hok, I.len⟩
theorem zo7 {N : List Str} (hN : N.Nodup) {i j : Nat} {x : Str} (a : N[i]? = some x) (b : N[j]? = some x) : i = j := by
  obtain ⟨h1, e1⟩ := List.getElem?_eq_some_iff.mp a
  obtain ⟨h2, e2⟩ := List.getElem?_eq_some_iff.mp b
  exact (List.getElem_inj hN).mp (e1.trans e2.symm)
theorem zm1 {M : Model} {A : Around} {E : Value -> Shared -> Prop} {i : Nat} {x : Str} {v : V} {u : Value} {Q : Unit -> Shared -> Prop} (I : Inv X pins σ H s) (hN : X.N.Nodup) (hi : X.N[i]? = some x) (hx : Loc X.env.scope x) (r : RelV v u)
    (h : ∀ s', Inv X pins (σ.set i (some v)) H s' -> (∃ a, Heap.SameBut a s.heap s'.heap /\ (a = X.env.locals \/ X.env.cells.lookup x = some a)) -> Q () s') (hf : X.fn x = true \/ X.env.scope.names.lookup x = some .local := by first | exact .inl rfl | exact .inr rfl | assumption) : wpAny M A (storeName X.env x u) Q E s := by
  obtain ⟨m, hn, hl⟩ := id I.loc
  have hcls : (X.env.scope.kind == .class || (X.env.scope.kind == .module && X.env.locals != X.env.globals)) = false := by rw [I.ok.kind]; rfl
  have hiσ : i < σ.length := by rw [I.len]; exact (List.getElem?_eq_some_iff.mp hi).1
  have cne := I.cne
  have tracked : ∀ {a : Addr} {h' : Heap}, (∃ o, s.heap.get? a = some o /\ H a = none) -> Heap.SameBut a s.heap h' -> HOk X.prog X.w H h' := fun {a h'} ha hs b ob e => by
    obtain ⟨_, _, hfree⟩ := ha
    refine (I.hok b ob e).stay (fun c w' hc q => (hs.2 c ?_).trans q) (fun _ q => q) fun _ _ q => q
    rintro rfl
    rcases hc with rfl | hc
    · rw [hfree] at e; cases e
    · rw [hfree] at hc; cases hc
  rcases hx with hk | hk
  · refine wpAny_storeName_local hk hn (fun h' hn' hs => ?_) hcls
    obtain ⟨oL, _, _, hoL, _⟩ := id hn
    refine h _ ⟨I.ok, I.os, I.bare, ⟨fun b o e n hb hx => ?_, fun b o e n hb hx => ?_, I.base.free, fun b o e hx => ?_, I.base.tups, I.base.frzs, I.base.tbls⟩, ⟨_, hn', fun j y v' e1 e2 e3 => ?_⟩, fun y c e => ?_, I.free, I.freeC, fun p hp => ?_, tracked ⟨oL, hoL, I.free⟩ hs, by simpa using I.len⟩ ⟨_, hs, .inl rfl⟩
    · exact (hs.2 b (Nat.ne_of_lt (Nat.lt_of_lt_of_le (Heap.lt_size e) I.ok.above))).trans (I.base.keep b o e n hb hx)
    · obtain ⟨sl, e1⟩ := I.base.slot b o e n hb hx
      exact ⟨sl, (hs.2 b (Nat.ne_of_lt (Nat.lt_of_lt_of_le (Heap.lt_size e) I.ok.above))).trans e1⟩
    · obtain ⟨o', e1⟩ := I.base.there b o e hx
      exact ⟨o', (hs.2 b (Nat.ne_of_lt (Nat.lt_of_lt_of_le (Heap.lt_size e) I.ok.above))).trans e1⟩
    · by_cases hj : j = i
      · subst hj
        rw [hi] at e1; cases e1
        rw [List.getElem?_set_self hiσ] at e2
        cases e2
        exact ⟨u, r, .inl ⟨hk, by simp⟩⟩
      · rw [List.getElem?_set_ne (Ne.symm hj)] at e2
        obtain ⟨u', r', q⟩ := hl j y v' e1 e2 e3
        refine ⟨u', r', ?_⟩
        rcases q with ⟨k, e⟩ | ⟨k, c, e, z⟩
        · refine .inl ⟨k, ?_⟩
          have : y ≠ x := fun e => hj (zo7 hN e1 (e ▸ hi))
          simp [this, e]
        · exact .inr ⟨k, c, e, z.sameBut hs (cne y c e)⟩
    · obtain ⟨w', z⟩ := I.cell y c e
      exact ⟨w', z.sameBut hs (cne y c e)⟩
    · obtain ⟨e, n, ne, nf, d⟩ := I.pin p hp
      exact ⟨(hs.2 p.1 ne).trans e, n, ne, nf, d⟩
  · have hfn : X.fn x = true := by
      rcases hf with z | z
      · exact z
      · rw [z] at hk; cases hk
    obtain ⟨c, hc⟩ := I.ok.has x (.inl hk)
    obtain ⟨w', z⟩ := I.cell x c hc
    refine wpAny_storeName_cell I.ok.kind hk hc z (fun h' hc' hs => ?_)
    obtain ⟨oc, hoc, hocd⟩ := id z
    refine h { s with heap := h' } ⟨I.ok, I.os, I.bare, ⟨fun b o e n hb hx => ?_, fun b o e n hb hx => ?_, I.base.free, fun b o e hx => ?_, I.base.tups, I.base.frzs, I.base.tbls⟩, ⟨m, hn.sameBut hs (Ne.symm (cne x c hc)), fun j y v' e1 e2 e3 => ?_⟩, fun y c' e => ?_, I.free, I.freeC, fun p hp => ?_, tracked ⟨oc, hoc, I.freeC x c hc⟩ hs, by simpa using I.len⟩ ⟨c, hs, .inr hc⟩
    · exact (hs.2 b (Nat.ne_of_lt (Nat.lt_of_lt_of_le (Heap.lt_size e) (I.ok.cab x c hfn hc)))).trans (I.base.keep b o e n hb hx)
    · obtain ⟨sl, e1⟩ := I.base.slot b o e n hb hx
      exact ⟨sl, (hs.2 b (Nat.ne_of_lt (Nat.lt_of_lt_of_le (Heap.lt_size e) (I.ok.cab x c hfn hc)))).trans e1⟩
    · obtain ⟨o', e1⟩ := I.base.there b o e hx
      exact ⟨o', (hs.2 b (Nat.ne_of_lt (Nat.lt_of_lt_of_le (Heap.lt_size e) (I.ok.cab x c hfn hc)))).trans e1⟩
    · by_cases hj : j = i
      · subst hj
        rw [hi] at e1; cases e1
        rw [List.getElem?_set_self hiσ] at e2
        cases e2
        exact ⟨u, r, .inr ⟨.inl hk, c, hc, hc'⟩⟩
      · rw [List.getElem?_set_ne (Ne.symm hj)] at e2
        obtain ⟨u', r', q⟩ := hl j y v' e1 e2 e3
        refine ⟨u', r', ?_⟩
        rcases q with q | ⟨k, c', e, z'⟩
        · exact .inl q
        · refine .inr ⟨k, c', e, z'.sameBut hs ?_⟩
          rintro rfl
          exact hj (zo7 hN e1 (I.ok.inj _ _ _ e hc ▸ hi))
    · by_cases hcc : c' = c
      · subst hcc; exact ⟨_, hc'⟩
      · obtain ⟨w2, z2⟩ := I.cell y c' e
        exact ⟨w2, z2.sameBut hs hcc⟩
    · obtain ⟨e, n, ne, nf, d⟩ := I.pin p hp
      refine ⟨(hs.2 p.1 ?_).trans e, n, ne, nf, d⟩
      intro q
      rw [q, hoc] at e
      have q' : oc = p.2 := Option.some.inj e
      exact d w' (by rw [<- q']; exact hocd)
theorem zuo {M : Model} {A : Around} {E : Value -> Shared -> Prop} {i : Nat} {x : Str} {v : V} {u : Value} {Q : Unit -> Shared -> Prop} (I : Inv X pins σ H s) (hN : X.N.Nodup) (hi : X.N[i]? = some x) (hx : Loc X.env.scope x) (r : RelV v u)
    (h : ∀ s', Inv X pins (σ.set i (some v)) H s' -> Q () s') (hf : X.fn x = true \/ X.env.scope.names.lookup x = some .local := by first | exact .inl rfl | exact .inr rfl | assumption) : wpAny M A (storeName X.env x u) Q E s :=
  zm1 I hN hi hx r (fun s' I' _ => h s' I') hf
theorem Inv.call' {s' : Shared} {ch : List Addr} (I : Inv X pins σ H s) (ho : s'.os = s.os) (u : Un (frs X.stack) ch H H' s.heap s'.heap) (hok : HOk X.prog X.w H' s'.heap) (hg : AllBare s'.gens)
    (hch : ∀ b ∈ ch, (b ∈ X.ex \/ X.s₀.heap.objs.size ≤ b) /\ b ≠ X.env.locals /\ (∀ x c, X.env.cells.lookup x = some c -> c ≠ b) /\ ∀ p ∈ X.pn ++ pins, p.1 ≠ b) : Inv X pins σ H' s' := by
  obtain ⟨h', g', d', t', o'⟩ := s'
  have e : o' = s.os := ho
  subst e
  exact I.call (g' := g') (t' := t') (d' := d') u hok hg hch
end
abbrev XK := Value -> Option Addr -> Hp -> Prop
abbrev St := List (Option V)
abbrev VK := V -> Hp -> Prop
abbrev TE := St -> Hp -> VK -> Prop
abbrev TT := St -> Hp -> (Bool -> Hp -> Prop) -> Prop
abbrev TA := St -> Hp -> (List V -> Hp -> Prop) -> Prop
structure Ends where
  nx : St -> Hp -> Prop
  rt : VK
  bk : St -> Hp -> Prop := fun _ _ => False
  ct : St -> Hp -> Prop := fun _ _ => False
abbrev TS := Ends -> St -> Hp -> Prop
def EP (X : Cx) (pins : List (Addr × Obj)) (σ : St) (Q : VK) (u : Value) (s' : Shared) : Prop := ∃ v H', Inv X pins σ H' s' /\ RelV v u /\ Q v H'
def TP (X : Cx) (pins : List (Addr × Obj)) (σ : St) (Q : Bool -> Hp -> Prop) (b : Bool) (s' : Shared) : Prop := ∃ H', Inv X pins σ H' s' /\ Q b H'
def AP (X : Cx) (pins : List (Addr × Obj)) (σ : St) (Q : List V -> Hp -> Prop) (us : List Value) (s' : Shared) : Prop := ∃ vs H', Inv X pins σ H' s' /\ Vals vs us /\ Q vs H'
def SP (X : Cx) (pins : List (Addr × Obj)) (D : Ends) (f : Flow) (s' : Shared) : Prop :=
  match f with
  | .next => ∃ σ' H', Inv X pins σ' H' s' /\ D.nx σ' H'
  | .brk => ∃ σ' H', Inv X pins σ' H' s' /\ D.bk σ' H'
  | .cont => ∃ σ' H', Inv X pins σ' H' s' /\ D.ct σ' H'
  | .ret u => ∃ v σ' H', Inv X pins σ' H' s' /\ RelV v u /\ D.rt v H'
def PE (X : Cx) (e : Expr) (t : TE) : Prop :=
  ∀ (pins : List (Addr × Obj)) (s : Shared) (σ : St) (H : Hp) (Q : VK), Inv X pins σ H s -> t σ H Q -> wpAny (model X.prog X.w) X.A (eval e X.env) (EP X pins σ Q) X.xe s
def PT (X : Cx) (e : Expr) (t : TT) : Prop :=
  ∀ (pins : List (Addr × Obj)) (s : Shared) (σ : St) (H : Hp) (Q : Bool -> Hp -> Prop), Inv X pins σ H s -> t σ H Q -> wpAny (model X.prog X.w) X.A (isTrue e X.env (eval e X.env)) (TP X pins σ Q) X.xe s
def PW (X : Cx) (e : Expr) (t : TT) : Prop :=
  ∀ (whole : Sem Value) (pins : List (Addr × Obj)) (s : Shared) (σ : St) (H : Hp) (Q : Bool -> Hp -> Prop), Inv X pins σ H s -> t σ H Q -> wpAny (model X.prog X.w) X.A (isTrue e X.env whole) (TP X pins σ Q) X.xe s
theorem PW.pt {X : Cx} {e : Expr} {t : TT} (h : PW X e t) : PT X e t := h _
def PA (X : Cx) (es : List Expr) (t : TA) : Prop :=
  ∀ (pos : Pos) (pins : List (Addr × Obj)) (s : Shared) (σ : St) (H : Hp) (Q : List V -> Hp -> Prop), Inv X pins σ H s -> t σ H Q -> wpAny (model X.prog X.w) X.A (spliced (backTo pos (starEach es X.env))) (AP X pins σ Q) X.xe s
def PS (X : Cx) (st : Stmt) (t : TS) : Prop :=
  ∀ (pins : List (Addr × Obj)) (s : Shared) (σ : St) (H : Hp) (D : Ends), Inv X pins σ H s -> t D σ H -> wpAny (model X.prog X.w) X.A (exec st X.env) (SP X pins D) X.xe s
def PSs (X : Cx) (st : List Stmt) (t : TS) : Prop :=
  ∀ (pins : List (Addr × Obj)) (s : Shared) (σ : St) (H : Hp) (D : Ends), Inv X pins σ H s -> t D σ H -> wpAny (model X.prog X.w) X.A (execs st X.env) (SP X pins D) X.xe s
theorem thn {α : Type} {t : Sem α} {Q Q' : α -> Shared -> Prop} {M : Model} {A : Around} {E : Value -> Shared -> Prop} {s : Shared} (h : wpAny M A t Q E s) (hQ : ∀ a s, Q a s -> Q' a s) : wpAny M A t Q' E s := wpAny_mono h hQ fun _ _ x => x
end L2
namespace L2
open PySem PySem.Spec PyProof.Rows
section
variable {X : Cx}
theorem bin {a b : Expr} {ta tb : TE} (ha : PE X a ta) (hb : PE X b tb) {pins : List (Addr × Obj)} {s : Shared} {σ : St} {H : Hp} {R : V -> V -> Hp -> Prop} (I : Inv X pins σ H s) (h : ta σ H fun x H1 => tb σ H1 fun y H2 => R x y H2)
    {α : Type} {Q : α -> Shared -> Prop} {f : Value -> Value -> Sem α}
    (hf : ∀ v u s2 x y H2, Inv X pins σ H2 s2 -> RelV x v -> RelV y u -> R x y H2 -> wpAny (model X.prog X.w) X.A (f v u) Q X.xe s2) :
    wpAny (model X.prog X.w) X.A (eval a X.env) (fun v s₁ => wpAny (model X.prog X.w) X.A (eval b X.env) (fun u s₂ => wpAny (model X.prog X.w) X.A (f v u) Q X.xe s₂) X.xe s₁) X.xe s := by
  refine thn (ha pins s σ H _ I h) fun v s1 ⟨x, H1, I1, r1, q1⟩ => ?_
  refine thn (hb pins s1 σ H1 _ I1 q1) fun u s2 ⟨y, H2, I2, r2, q2⟩ => ?_
  exact hf v u s2 x y H2 I2 r1 r2 q2
def tVar (i : Nat) : TE := fun σ H Q => ∃ v, σ[i]? = some (some v) /\ Q v H
def tC (v : V) : TE := fun _ H Q => Q v H
theorem zox {i : Nat} {x : Str} {pos : Pos} (hN : X.N[i]? = some x) (hv : Vis X.env.scope x) (hd : (x == ("__debug__" : Str)) = false := by decide) (hcd : (x == ("__classdict__" : Str)) = false := by decide) : PE X (.Name x pos) (tVar i) := by
  intro pins s σ H Q I h
  obtain ⟨v, e, h⟩ := h
  obtain ⟨m, hn, hl⟩ := I.loc
  obtain ⟨u, r, l⟩ := hl i x v hN e hv
  have fin : EP X pins σ Q u s := ⟨v, H, I, r, h⟩
  rcases l with ⟨hk, hm⟩ | ⟨hk, c, hc, hcell⟩
  · exact wpAny_Name (wpAny_loadName_local I.ok.kind hk hn hm fin) hd
  · rcases hk with hk | hk
    · exact wpAny_Name (wpAny_loadName_cell I.ok.kind hk hc hcell fin) hd
    · exact wpAny_Name (wpAny_loadName_free I.ok.kind hk hc hcell fin hcd) hd
theorem zs2 {i j pos} : PE X (.Constant (.int i) j pos) (tC (.int i)) := fun _ _ _ H _ I h => wpAny_Constant_int ⟨.int i, H, I.tok _, ⟨_, rfl⟩, h⟩
theorem pe_bl {b j pos} : PE X (.Constant (.bool b) j pos) (tC (.bl b)) := fun _ _ _ H _ I h => Constant_bool ⟨.bl b, H, I, rfl, h⟩
theorem pe_non {j pos} : PE X (.Constant .none j pos) (tC .non) := fun _ _ _ H _ I h => Constant_none ⟨.non, H, I, rfl, h⟩
theorem pe_str {x j pos} : PE X (.Constant (.str x) j pos) (tC (.str x)) := fun _ _ _ H _ I h => Calls.Constant_str ⟨.str x, H, I.tok _, ⟨_, rfl⟩, h⟩
def Gl (X : Cx) (x : Str) : Prop := X.env.kindOf x = some .globalImplicit
theorem zqr {E : Value -> Shared -> Prop} {pins : List (Addr × Obj)} {s : Shared} {σ : St} {H : Hp} {x : Str} {u : Value} {pos : Pos} {Q : Value -> Shared -> Prop} (I : Inv X pins σ H s) (hg : Gl X x) (hm : X.mg x = some u) (h : Q u s)
    (hd : (x == ("__debug__" : Str)) = false := by decide) : wpAny (model X.prog X.w) X.A (eval (.Name x pos) X.env) Q E s :=
  Calls.Name_function_global I.ok.kind hg (Calls.loadGlobal_global (by rw [I.ok.glob]; exact I.mod.glob.keeps I.bk) hm h) hd
theorem zgy {E : Value -> Shared -> Prop} {pins : List (Addr × Obj)} {s : Shared} {σ : St} {H : Hp} {x : Str} {u : Value} {pos : Pos} {Q : Value -> Shared -> Prop} (I : Inv X pins σ H s) (hg : Gl X x) (hm : X.mg x = none) (hv : bootBuiltins x = some u) (h : Q u s)
    (hn : x ≠ "__name__" := by decide) (hd : (x == ("__debug__" : Str)) = false := by decide) : wpAny (model X.prog X.w) X.A (eval (.Name x pos) X.env) Q E s := by
  obtain ⟨mb, h1, h2⟩ := I.mod.blt
  exact Calls.Name_function_global I.ok.kind hg (Calls.loadGlobal_builtin (by rw [I.ok.glob]; exact I.mod.glob.keeps I.bk) hm (by rw [I.ok.blt]; exact h1.keeps I.bk) ((h2 x hn).trans hv) h) hd
theorem zmb {x : Str} {v : V} {u : Value} {pos : Pos} (hg : Gl X x) (hm : X.mg x = some u) (r : RelV v u) (hd : (x == ("__debug__" : Str)) = false := by decide) : PE X (.Name x pos) (tC v) :=
  fun _ _ _ H _ I h => zqr I hg hm ⟨v, H, I, r, h⟩ hd
theorem zxz {x : Str} {v : V} {u : Value} {pos : Pos} (hg : Gl X x) (hm : X.mg x = none) (hv : bootBuiltins x = some u) (r : RelV v u) (hn : x ≠ "__name__" := by decide) (hd : (x == ("__debug__" : Str)) = false := by decide) : PE X (.Name x pos) (tC v) :=
  fun _ _ _ H _ I h => zgy I hg hm hv ⟨v, H, I, r, h⟩ hn hd
variable {a b : Expr} {ta tb : TE} {pos : Pos}
variable {tA tB' : TT} {rest : List Expr}
def zgm (t u : TT) : TT := fun σ H Q => t σ H fun c H1 => if c = true then u σ H1 Q else Q false H1
def tOr (t u : TT) : TT := fun σ H Q => t σ H fun c H1 => if c = true then Q true H1 else u σ H1 Q
def zb3 (t : TT) : TT := fun σ H Q => t σ H fun c H1 => Q (!c) H1
theorem zxn (ha : PT X a tA) : PW X (.BoolOp .And [a] pos) tA := by
  intro wh pins s σ H Q I h
  refine isTrue_and (thn (ha pins s σ H Q I h) fun c s1 e => ?_)
  cases c with
  | true => exact isTrue_and_nil e
  | false => exact e
theorem pw_or1 (ha : PT X a tA) : PW X (.BoolOp .Or [a] pos) tA := by
  intro wh pins s σ H Q I h
  refine isTrue_or (thn (ha pins s σ H Q I h) fun c s1 e => ?_)
  cases c with
  | false => exact isTrue_or_nil e
  | true => exact e
theorem pw_and (ha : PT X a tA) (hb : PW X (.BoolOp .And (b :: rest) pos) tB') : PW X (.BoolOp .And (a :: b :: rest) pos) (zgm tA tB') := by
  intro wh pins s σ H Q I h
  refine isTrue_and (thn (ha pins s σ H _ I h) fun c s1 ⟨H1, I1, q1⟩ => ?_)
  cases c with
  | true => exact hb wh pins s1 σ H1 Q I1 q1
  | false => exact ⟨H1, I1, q1⟩
theorem pw_or (ha : PT X a tA) (hb : PW X (.BoolOp .Or (b :: rest) pos) tB') : PW X (.BoolOp .Or (a :: b :: rest) pos) (tOr tA tB') := by
  intro wh pins s σ H Q I h
  refine isTrue_or (thn (ha pins s σ H _ I h) fun c s1 ⟨H1, I1, q1⟩ => ?_)
  cases c with
  | true => exact ⟨H1, I1, q1⟩
  | false => exact hb wh pins s1 σ H1 Q I1 q1
theorem pt_not (ha : PT X a tA) : PT X (.UnaryOp .Not a pos) (zb3 tA) := by
  intro pins s σ H Q I h
  exact isTrue_not (ha pins s σ H (fun c H1 => Q (!c) H1) I h)
def tAndV (ta tb : TE) : TE := fun σ H Q => ta σ H fun x H1 => ∃ c, x = .bl c /\ if c = true then tb σ H1 Q else Q (.bl false) H1
def tNotV (ta : TE) : TE := fun σ H Q => ta σ H fun x H1 => ∃ c, x = .bl c /\ Q (.bl (!c)) H1
theorem pe_one {op} {t : TE} (h : PE X a t) : PE X (.BoolOp op [a] pos) t := fun pins s σ H Q I hw => BoolOp_one (h pins s σ H Q I hw)
theorem pe_and (ha : PE X a ta) (hb : PE X (.BoolOp .And (b :: rest) pos) tb) : PE X (.BoolOp .And (a :: b :: rest) pos) (tAndV ta tb) := by
  intro pins s σ H Q I h
  refine BoolOp_and (thn (ha pins s σ H _ I h) fun v s1 ⟨x, H1, I1, r1, q1⟩ => ?_)
  obtain ⟨c, rfl, q1⟩ := q1
  cases r1
  refine wpAny_truthy_bool ?_
  cases c with
  | true => exact hb pins s1 σ H1 Q I1 q1
  | false => exact ⟨.bl false, H1, I1, rfl, q1⟩
theorem pe_not (ha : PE X a ta) : PE X (.UnaryOp .Not a pos) (tNotV ta) := by
  intro pins s σ H Q I h
  refine UnaryOp_ (thn (ha pins s σ H _ I h) fun v s1 ⟨x, H1, I1, r1, q1⟩ => ?_)
  obtain ⟨c, rfl, q1⟩ := q1
  cases r1
  exact not_of (wpAny_truthy_bool ⟨.bl (!c), H1, I1, rfl, q1⟩)
def tIf (t : TT) (ta tb : TE) : TE := fun σ H Q => t σ H fun c H1 => if c = true then ta σ H1 Q else tb σ H1 Q
theorem zu8 {c : Expr} (hc : PT X c tA) (ha : PE X a ta) (hb : PE X b tb) : PE X (.IfExp c a b pos) (tIf tA ta tb) := by
  intro pins s σ H Q I h
  refine wpAny_IfExp (thn (hc pins s σ H _ I h) fun d s1 ⟨H1, I1, q1⟩ => ?_)
  cases d with
  | true => exact ha pins s1 σ H1 Q I1 q1
  | false => exact hb pins s1 σ H1 Q I1 q1
end
end L2
namespace L2
open PySem PySem.Spec PyProof.Rows
def SqL (K : PySem.W.Frag) (H : Hp) (a : Addr) (xs : List V) : Prop :=
  Rd H a (.lst xs) \/
    ∃ (o : Obj) (its : Array Value) (n : Nat), K.lookup a = some o /\ o.cls = .type "list" /\ o.dict = none /\ o.data = .seq its n /\ its.size ≤ sizeLine /\ Vals xs its.toList
def SqT (K : PySem.W.Frag) (H : Hp) (a : Addr) (xs : List V) : Prop :=
  Rd H a (.tup xs) \/
    ∃ (o : Obj) (its : Array Value) (n : Nat), K.lookup a = some o /\ o.cls = .type "tuple" /\ o.data = .seq its n /\ its.size ≤ sizeLine /\ Vals xs its.toList
def absV : Value -> Option V
  | .none => some .non
  | .bool b => some (.bl b)
  | .int i _ => some (.int i)
  | .str x _ => some (.str x)
  | .bytes b _ => some (.byt b)
  | .float b _ => some (.flt b)
  | .ref a => some (.ref a)
  | .type n => some (.ty n)
  | _ => none
theorem RelV.abs {x : V} {u : Value} (r : RelV x u) : absV u = some x := by
  cases x with
  | non => cases r; rfl
  | bl _ => cases r; rfl
  | int _ => obtain ⟨t, rfl⟩ := r; rfl
  | str _ => obtain ⟨t, rfl⟩ := r; rfl
  | byt _ => obtain ⟨t, rfl⟩ := r; rfl
  | flt _ => obtain ⟨t, rfl⟩ := r; rfl
  | ref _ => cases r; rfl
  | ty _ => cases r; rfl
theorem RelV.inj {x y : V} {u : Value} (r : RelV x u) (q : RelV y u) : x = y := Option.some.inj (r.abs.symm.trans q.abs)
theorem Vals.inj : ∀ {xs ys : List V} {us : List Value}, Vals xs us -> Vals ys us -> xs = ys
  | _, _, _, .nil, .nil => rfl
  | _, _, _, .cons r t, .cons r' t' => by rw [r.inj r', Vals.inj t t']
section
variable {X : Cx} {pins : List (Addr × Obj)} {σ : St} {H : Hp} {s : Shared} {a : Addr} {xs ys : List V}
theorem SqL.of {K : PySem.W.Frag} (h : H a = some (.lst xs)) : SqL K H a xs := .inl (.inl h)
theorem SqT.of {K : PySem.W.Frag} (h : H a = some (.tup xs)) : SqT K H a xs := .inl (.inl h)
theorem Inv.list (I : Inv X pins σ H s) (h : SqL X.K H a xs) : ∃ its : List Value, Vals xs its /\ PlainL s.heap a its.toArray /\ xs.length ≤ sizeLine := by
  rcases h with h | ⟨o, its, n, hk, hc, hd, hs, hz, r⟩
  · obtain ⟨z, its, n, r, e⟩ := h.ok I.hok
    exact ⟨its, r, ⟨_, n, e, rfl, rfl, rfl⟩, z⟩
  · refine ⟨its.toList, r, ⟨o, n, I.kIn a o hk, hc, hd, by simpa using hs⟩, ?_⟩
    have e := r.length
    simp only [Array.length_toList] at e
    omega
theorem Inv.tuple (I : Inv X pins σ H s) (h : SqT X.K H a xs) : ∃ its : List Value, Vals xs its /\ IsTup s.heap a its.toArray /\ xs.length ≤ sizeLine := by
  rcases h with h | ⟨o, its, n, hk, hc, hs, hz, r⟩
  · obtain ⟨z, its, r, p⟩ := h.ok I.hok
    exact ⟨its, r, p, z⟩
  · refine ⟨its.toList, r, ⟨o, I.kIn a o hk, hc, n, by simpa using hs⟩, ?_⟩
    have e := r.length
    simp only [Array.length_toList] at e
    omega
theorem Inv.list_inj (I : Inv X pins σ H s) (h : SqL X.K H a xs) (h' : SqL X.K H a ys) : xs = ys := by
  obtain ⟨its, r, ⟨o, n, e, _, _, d⟩, _⟩ := I.list h
  obtain ⟨its', r', ⟨o', n', e', _, _, d'⟩, _⟩ := I.list h'
  rw [e] at e'; cases e'
  rw [d] at d'
  injection d' with d1 _
  have : its = its' := by simpa using congrArg Array.toList d1
  subst this
  exact r.inj r'
theorem Inv.tuple_inj (I : Inv X pins σ H s) (h : SqT X.K H a xs) (h' : SqT X.K H a ys) : xs = ys := by
  obtain ⟨its, r, ⟨o, e, _, n, d⟩, _⟩ := I.tuple h
  obtain ⟨its', r', ⟨o', e', _, n', d'⟩, _⟩ := I.tuple h'
  rw [e] at e'; cases e'
  rw [d] at d'
  injection d' with d1 _
  have : its = its' := by simpa using congrArg Array.toList d1
  subst this
  exact r.inj r'
end
abbrev Cx.wish (X : Cx) (E : Value -> Shared -> Prop) : Cx := { X with xe := E }
abbrev Cx.nox (X : Cx) : Cx := X.wish fun _ _ => False
theorem Cx.Ok.wish {X : Cx} (ok : X.Ok) (E : Value -> Shared -> Prop) : (X.wish E).Ok :=
  ⟨ok.mod, ok.kind, ok.glob, ok.blt, ok.above, ok.inj, ok.has, ok.cab, ok.hd, ok.frames, ok.stk, ok.exf, ok.bs, ok.bsz, ok.noex, ok.exfs, ok.funs, ok.frf⟩
theorem Cx.Ok.unwish {X : Cx} {E : Value -> Shared -> Prop} (ok : (X.wish E).Ok) : X.Ok :=
  ⟨ok.mod, ok.kind, ok.glob, ok.blt, ok.above, ok.inj, ok.has, ok.cab, ok.hd, ok.frames, ok.stk, ok.exf, ok.bs, ok.bsz, ok.noex, ok.exfs, ok.funs, ok.frf⟩
section
variable {X : Cx} {pins : List (Addr × Obj)} {σ : St} {H : Hp} {s : Shared} {E : Value -> Shared -> Prop}
theorem Inv.wish (I : Inv X pins σ H s) (E : Value -> Shared -> Prop) : Inv (X.wish E) pins σ H s := ⟨I.ok.wish E, I.os, I.bare, I.base, I.loc, I.cell, I.free, I.freeC, I.pin, I.hok, I.len⟩
theorem Inv.unwish (I : Inv (X.wish E) pins σ H s) : Inv X pins σ H s := ⟨I.ok.unwish, I.os, I.bare, I.base, I.loc, I.cell, I.free, I.freeC, I.pin, I.hok, I.len⟩
theorem SP.unwish {D : Ends} {f : Flow} {s' : Shared} (h : SP (X.wish E) pins D f s') : SP X pins D f s' := by
  cases f with
  | next => obtain ⟨σ', H', I, q⟩ := h; exact ⟨σ', H', I.unwish, q⟩
  | brk => obtain ⟨σ', H', I, q⟩ := h; exact ⟨σ', H', I.unwish, q⟩
  | cont => obtain ⟨σ', H', I, q⟩ := h; exact ⟨σ', H', I.unwish, q⟩
  | ret u => obtain ⟨v, σ', H', I, r, q⟩ := h; exact ⟨v, σ', H', I.unwish, r, q⟩
theorem PE.nox {e : Expr} {t : TE} (h : PE X.nox e t) : PE X e t := fun pins s σ H Q I hw =>
  wpAny_mono (h pins s σ H Q (I.wish _) hw) (fun _ _ ⟨v, H', I', r, q⟩ => ⟨v, H', I'.unwish, r, q⟩) fun _ _ z => False.elim z
theorem PT.nox {e : Expr} {t : TT} (h : PT X.nox e t) : PT X e t := fun pins s σ H Q I hw =>
  wpAny_mono (h pins s σ H Q (I.wish _) hw) (fun _ _ ⟨H', I', q⟩ => ⟨H', I'.unwish, q⟩) fun _ _ z => False.elim z
theorem PSs.nox {st : List Stmt} {t : TS} (h : PSs X.nox st t) : PSs X st t := fun pins s σ H D I hw =>
  wpAny_mono (h pins s σ H D (I.wish _) hw) (fun _ _ q => q.unwish) fun _ _ z => False.elim z
end
section
variable {X : Cx} {st : Stmt} {rest : List Stmt} {t u : TS} {e : Expr} {te : TE} {pos : Pos}
def tNext : TS := fun D σ H => D.nx σ H
def tSeq (t u : TS) : TS := fun D σ H => t { D with nx := u D } σ H
theorem zxp : PSs X [] tNext := fun _ _ σ H _ I h => wpAny_execs_nil ⟨σ, H, I, h⟩
theorem zu5 (h1 : PS X st t) (h2 : PSs X rest u) : PSs X (st :: rest) (tSeq t u) := by
  intro pins s σ H D I h
  refine wpAny_execs_cons (thn (h1 pins s σ H { D with nx := u D } I h) fun f s1 q => ?_)
  cases f with
  | next =>
    obtain ⟨σ', H', I', q⟩ := q
    exact h2 pins s1 σ' H' D I' q
  | ret v => exact q
  | brk => exact q
  | cont => exact q
theorem zxq : PS X (.Pass pos) tNext := fun _ _ σ H _ I h => wpAny_Pass ⟨σ, H, I, h⟩
theorem Inv.quiet {pins : List (Addr × Obj)} {σ : St} {H : Hp} {s : Shared} (I : Inv X pins σ H s) : interactive X.env = false := by simp [interactive, I.ok.kind]
def tDrop (te : TE) : TS := fun D σ H => te σ H fun _ H1 => D.nx σ H1
theorem zxr (he : PE X e te) (hs : swapsWith e none pos.line X.env = pure false := by rfl) : PS X (.Expr e pos) (tDrop te) := by
  intro pins s σ H D I h
  exact wpAny_Expr_any (thn (he pins s σ H _ I h) fun v s1 ⟨x, H1, I1, r1, q1⟩ => ⟨σ, H1, I1, q1⟩) I.quiet hs
def tRet (te : TE) : TS := fun D σ H => te σ H D.rt
theorem ps_ret (he : PE X e te) : PS X (.Return (some e) pos) (tRet te) := by
  intro pins s σ H D I h
  exact wpAny_Return_some (thn (he pins s σ H _ I h) fun v s1 ⟨x, H1, I1, r1, q1⟩ => ⟨x, σ, H1, I1, r1, q1⟩)
def tIfS (c : TT) (t u : TS) : TS := fun D σ H => c σ H fun b H1 => if b = true then t D σ H1 else u D σ H1
theorem ps_if {c : Expr} {a b : List Stmt} {tc : TT} (hc : PT X c tc) (ha : PSs X a t) (hb : PSs X b u) : PS X (.If c a b pos) (tIfS tc t u) := by
  intro pins s σ H D I h
  refine wpAny_If (thn (hc pins s σ H _ I h) fun d s1 ⟨H1, I1, q1⟩ => ?_)
  cases d with
  | true => exact ha pins s1 σ H1 D I1 q1
  | false => exact hb pins s1 σ H1 D I1 q1
end
abbrev TG := V -> St -> Hp -> (St -> Hp -> Prop) -> Prop
abbrev TGs := List V -> St -> Hp -> (St -> Hp -> Prop) -> Prop
def PG (X : Cx) (target : Expr) (t : TG) : Prop :=
  ∀ (pins : List (Addr × Obj)) (s : Shared) (σ : St) (H : Hp) (v : V) (u : Value) (Q : St -> Hp -> Prop), Inv X pins σ H s -> RelV v u -> t v σ H Q ->
    wpAny (model X.prog X.w) X.A (assign target X.env u) (fun _ s' => ∃ σ' H', Inv X pins σ' H' s' /\ Q σ' H') X.xe s
def PGs (X : Cx) (ts : List Expr) (t : TGs) : Prop :=
  ∀ (pins : List (Addr × Obj)) (s : Shared) (σ : St) (H : Hp) (vs : List V) (us : List Value) (Q : St -> Hp -> Prop), Inv X pins σ H s -> Vals vs us -> t vs σ H Q ->
    wpAny (model X.prog X.w) X.A (assignInOrder ((assignEach ts X.env).map (·.2)) us) (fun _ s' => ∃ σ' H', Inv X pins σ' H' s' /\ Q σ' H') X.xe s
abbrev TSet := V -> V -> V -> Hp -> (Hp -> Prop) -> Prop
def PSet (X : Cx) (t : TSet) : Prop :=
  ∀ (pins : List (Addr × Obj)) (s : Shared) (σ : St) (H : Hp) (o i v : V) (ov iv u : Value) (Q : Hp -> Prop), Inv X pins σ H s -> RelV o ov -> RelV i iv -> RelV v u -> t o i v H Q ->
    wpAny (model X.prog X.w) X.A (setItem ov iv u) (fun _ s' => ∃ H', Inv X pins σ H' s' /\ Q H') X.xe s
section
variable {X : Cx} {pos : Pos}
def gName (i : Nat) : TG := fun v σ H Q => Q (σ.set i (some v)) H
theorem zqm {i : Nat} {x : Str} (hN : X.N.Nodup) (hi : X.N[i]? = some x) (hx : Loc X.env.scope x) (hf : X.fn x = true \/ X.env.scope.names.lookup x = some .local := by first | exact .inl rfl | exact .inr rfl | assumption) : PG X (.Name x pos) (gName i) := by
  intro pins s σ H v u Q I r h
  exact wpAny_assign_Name (zuo I hN hi hx r (fun s' I' => ⟨_, H, I', h⟩) hf)
def zag : TGs := fun vs σ H Q => vs = [] /\ Q σ H
def zaa (t : TG) (u : TGs) : TGs := fun vs σ H Q => ∃ v r, vs = v :: r /\ t v σ H fun σ' H' => u r σ' H' Q
theorem zxw : PGs X [] zag := by
  intro pins s σ H vs us Q I r h
  obtain ⟨e, h⟩ := h
  subst e
  cases r
  exact assignInOrder_nil ⟨σ, H, I, h⟩
theorem zu7 {e : Expr} {es : List Expr} {t : TG} {u : TGs} (h1 : PG X e t) (h2 : PGs X es u)
    (hs : (assignEach (e :: es) X.env).map (·.2) = assign e X.env :: (assignEach es X.env).map (·.2) := by rfl) : PGs X (e :: es) (zaa t u) := by
  intro pins s σ H vs us Q I r h
  obtain ⟨v, vr, e1, h⟩ := h
  subst e1
  cases r with
  | cons r rr =>
    rw [hs]
    refine assignInOrder_cons (thn (h1 pins s σ H _ _ _ I r h) fun _ s1 ⟨σ1, H1, I1, q1⟩ => ?_)
    exact h2 pins s1 σ1 H1 _ _ Q I1 rr q1
def za3 (K : PySem.W.Frag) (n : Nat) (t : TGs) : TG := fun v σ H Q => ∃ a xs, v = .ref a /\ SqT K H a xs /\ xs.length = n /\ t xs σ H Q
theorem pg_tup {es : List Expr} {k : Nat} {t : TGs} {n : Nat} (hc : X.calm = true) (h : PGs X es t)
    (hn : (assignEach es X.env).length = n := by rfl) (hst : (assignEach es X.env).findIdx? (·.1) = none := by rfl) : PG X (.Tuple es k pos) (za3 X.K n t) := by
  intro pins s σ H v u Q I r hw
  obtain ⟨a, xs, e1, hq, hl, hw⟩ := hw
  subst e1
  cases r
  obtain ⟨its, rv, ht, hz⟩ := I.tuple hq
  refine assign_Tuple_tuple (I.ok.hd hc) ht (by simp [hn, <- hl, rv.length]) hst fun h' hx => ?_
  have I1 : Inv X pins σ H { s with heap := h' } := I.kept (t' := s.toks) fun b o e => hx b o (Nat.ne_of_lt (Heap.lt_size e)) e
  exact h pins _ σ H xs _ Q I1 (by simpa using rv) hw
def gSub (to ti : TE) (t : TSet) : TG := fun v σ H Q => to σ H fun o H1 => ti σ H1 fun i H2 => t o i v H2 fun H3 => Q σ H3
theorem pg_sub {o i : Expr} {to ti : TE} {t : TSet} (ho : PE X o to) (hi : PE X i ti) (hs : PSet X t)
    (ha : ∀ v, assign (.Subscript o i pos) X.env v = (do
      let ov <- holding [v] (eval o X.env)
      let iv <- holding [v, ov] (eval i X.env)
      standAt pos
      holding [v, ov, iv] (setItem ov iv v)
      release [v, ov, iv] []) := by intro _; rfl) : PG X (.Subscript o i pos) (gSub to ti t) := by
  intro pins s σ H v u Q I r h
  rw [ha]
  refine wpAny_bind (wpAny_holding (thn (ho pins s σ H _ I h) fun ov s1 ⟨x, H1, I1, r1, q1⟩ => ?_))
  refine wpAny_bind (wpAny_holding (thn (hi pins s1 σ H1 _ I1 q1) fun iv s2 ⟨y, H2, I2, r2, q2⟩ => ?_))
  refine wpAny_bind (wpAny_standAt (wpAny_bind (wpAny_holding (thn (hs pins s2 σ H2 x y v ov iv u _ I2 r1 r2 r q2) fun _ s3 ⟨H3, I3, q3⟩ => ?_))))
  exact wpAny_release ⟨σ, H3, I3, q3⟩
def tAsg (te : TE) (g : TG) : TS := fun D σ H => te σ H fun x H1 => g x σ H1 D.nx
theorem zsx {tg e : Expr} {te : TE} {g : TG} (he : PE X e te) (hg : PG X tg g) (hs : swapsWithSole [tg] e pos.line X.env = pure false := by rfl) (hw : swappedStores [tg] e X.env = pure none := by rfl)
    (h1 : (assignEach [tg] X.env).map (·.2) = [assign tg X.env] := by rfl) : PS X (.Assign [tg] e pos) (tAsg te g) := by
  intro pins s σ H D I h
  refine wpAny_Assign_stores (thn (he pins s σ H _ I h) fun v s1 ⟨x, H1, I1, r1, q1⟩ => ?_) hs hw
  rw [h1]
  exact thn (hg pins s1 σ H1 x v _ I1 r1 q1) fun _ s2 q => q
end
section
variable {X : Cx} {pos : Pos}
end
structure It where
  go : Nat -> Hp -> Prop
  yld : Nat -> Hp -> V -> Hp -> Prop
  stop : Nat -> Hp -> Prop
def zfx (X : Cx) (pins : List (Addr × Obj)) (H : Hp) (b : Addr) : Prop :=
  H b = none /\ b ≠ X.env.locals /\ b ∉ X.fs /\ (b ∈ X.ex \/ X.s₀.heap.objs.size ≤ b) /\ (∀ x c, X.env.cells.lookup x = some c -> c ≠ b) /\ ∀ p ∈ X.pn ++ pins, p.1 ≠ b
theorem Inv.fpOk {X : Cx} {pins : List (Addr × Obj)} {σ : St} {H H' : Hp} {s : Shared} {b : Addr} (I : Inv X pins σ H s) (hb : s.heap.objs.size ≤ b) (hn : H' b = none) : zfx X pins H' b := by
  refine ⟨hn, Nat.ne_of_gt (Nat.lt_of_lt_of_le I.lt hb), I.nofs hb, .inr (Nat.le_trans I.sz hb), fun x c e z => ?_, fun p hp z => ?_⟩
  · obtain ⟨v, q⟩ := I.cell x c e
    exact absurd (Nat.lt_of_lt_of_le q.lt (by rw [z]; exact hb)) (Nat.lt_irrefl _)
  · exact absurd (Nat.lt_of_lt_of_le (Heap.lt_size (I.pin p hp).1) (by rw [z]; exact hb)) (Nat.lt_irrefl _)
structure Turn (P : Program) (w : World) (K : PySem.W.Frag) (tg : Expr) (J : It) (fp : List Addr) (it : Addr) (tn : Nat -> Heap -> Prop) : Prop where
  mem : it ∈ fp
  obj : ∀ i h, tn i h -> ∀ b ∈ fp, ∃ o, h.get? b = some o /\ ∀ v, o.data ≠ .cell v
  keep : ∀ i h h', tn i h -> (∀ b ∈ fp, ∀ o, h.get? b = some o -> h'.get? b = some o) -> tn i h'
  item : ∀ (X : Cx), X.prog = P -> X.w = w -> X.K = K -> X.calm = true -> ∀ (i : Nat) (pins : List (Addr × Obj)) (s : Shared) (σ : St) (H : Hp) (E : Value -> Shared -> Prop), Inv X pins σ H s -> (∀ b ∈ fp, zfx X pins H b) -> tn i s.heap -> J.go i H ->
    wpAny (model P w) X.A (pyNext (.ref it)) (fun r s1 => ∃ u, r = some u /\
      wpAny (model P w) X.A (letOwnedTupleGo tg (.ref it) u) (fun _ s2 => ∃ x H', Inv X pins σ H' s2 /\ RelV x u /\ J.yld i H x H' /\ tn (i + 1) s2.heap /\ ∀ b ∈ fp, H' b = none) E s1) E s
  done : ∀ (X : Cx), X.prog = P -> X.w = w -> X.K = K -> X.calm = true -> ∀ (i : Nat) (pins : List (Addr × Obj)) (s : Shared) (σ : St) (H : Hp) (E : Value -> Shared -> Prop), Inv X pins σ H s -> (∀ b ∈ fp, zfx X pins H b) -> tn i s.heap -> J.stop i H ->
    wpAny (model P w) X.A (pyNext (.ref it)) (fun r s1 => r = none /\ Inv X pins σ H s1) E s
  self : ∀ (A : Around) (i : Nat) (s : Shared) (Q : Value -> Shared -> Prop) (E : Value -> Shared -> Prop), tn i s.heap -> Q (.ref it) s -> wpAny (model P w) A (pyIter (.ref it)) Q E s
abbrev TI := St -> Hp -> (It -> Hp -> Prop) -> Prop
def PIE (X : Cx) (pins : List (Addr × Obj)) (σ : St) (tg : Expr) (R : It -> Hp -> Prop) (itv : Value) (s2 : Shared) : Prop :=
  ∃ (it : Addr) (fp : List Addr) (tn : Nat -> Heap -> Prop) (J : It) (H' : Hp), itv = .ref it /\ Inv X pins σ H' s2 /\ Turn X.prog X.w X.K tg J fp it tn /\ tn 0 s2.heap /\ (∀ b ∈ fp, zfx X pins H' b) /\ R J H'
def PI (X : Cx) (tg iter : Expr) (wi : TI) : Prop :=
  ∀ (pins : List (Addr × Obj)) (s : Shared) (σ : St) (H : Hp) (R : It -> Hp -> Prop), Inv X pins σ H s -> wi σ H R ->
    wpAny (model X.prog X.w) X.A (eval iter X.env) (fun v s1 => wpAny (model X.prog X.w) X.A (pyIter v) (PIE X pins σ tg R) X.xe s1) X.xe s
theorem zn5 {M : Model} {A : Around} {E : Value -> Shared -> Prop} {s : Shared} {tg : Expr} {it : Addr} {u : Value} {o : Obj} {n : String} {vs : Array Value} {Q : Unit -> Shared -> Prop} (ho : s.heap.get? it = some o) (hc : o.cls = .type n) (hd : o.data = .fields vs)
    (hn : ["enumerate", "zip", "dict_itemiterator", "dict_reverseitemiterator", "odict_iterator", "itertools.zip_longest", "itertools.pairwise"].contains n = false) (hQ : Q () s) : wpAny M A (letOwnedTupleGo tg (.ref it) u) Q E s := by
  unfold letOwnedTupleGo
  cases tg <;> first
    | exact wpAny_pure hQ
    | (cases u <;> first
        | exact wpAny_pure hQ
        | (refine wpAny_bind (wpAny_load ho ?_)
           rw [hc, hd]
           show wpAny M A (if (["enumerate", "zip", "dict_itemiterator", "dict_reverseitemiterator", "odict_iterator", "itertools.zip_longest", "itertools.pairwise"].contains n && vs[0]? == some (rawInt _)) = true then _ else _) Q E s
           rw [if_neg (by intro h; rw [hn, Bool.false_and] at h; cases h)]
           exact wpAny_pure hQ))
def Itl (K : PySem.W.Frag) (a : Addr) : It :=
  ⟨fun i H => ∃ xs x, SqL K H a xs /\ xs[i]? = some x, fun i H x H' => H' = H /\ ∀ xs, SqL K H a xs -> xs[i]? = some x, fun i H => ∃ xs, SqL K H a xs /\ xs.length ≤ i⟩
def Itt (K : PySem.W.Frag) (a : Addr) : It :=
  ⟨fun i H => ∃ xs x, SqT K H a xs /\ xs[i]? = some x, fun i H x H' => H' = H /\ ∀ xs, SqT K H a xs -> xs[i]? = some x, fun i H => ∃ xs, SqT K H a xs /\ xs.length ≤ i⟩
def Itr (lo : Int) (n : Nat) : It := ⟨fun i _ => i < n, fun i H x H' => H' = H /\ x = .int (lo + i), fun i _ => n ≤ i⟩
theorem zsf {P : Program} {w : World} {K : PySem.W.Frag} {tg : Expr} (a it : Addr) : Turn P w K tg (Itl K a) [it] it (fun i h => h.IsListIter it a i) where
  mem := by simp
  obj := fun i h st b hb => by
    have e : b = it := by simpa using hb
    subst e
    obtain ⟨o, e, c, d⟩ := st
    exact ⟨o, e, fun v z => by rw [d] at z; cases z⟩
  keep := fun i h h' st k => st.at fun o e => k it (by simp) o e
  item := by
    intro X hP hw hK hc i pins s σ H E I hf st hg
    subst hP hw hK
    obtain ⟨xs, x, hq, hx⟩ := hg
    obtain ⟨its, rv, p, hz⟩ := I.list hq
    obtain ⟨u, hu, ru⟩ := rv.get hx
    obtain ⟨f0, f1, f2, f3, f4, f5⟩ := hf it (by simp)
    refine wpAny_pyNext_list_item st p.isList (x := u) (by simpa using hu) fun h' st' sb => ?_
    have I1 : Inv X pins σ H { s with heap := h' } := I.turned (t' := s.toks) (fun b o hb e => (sb.2 b hb).trans e) f0 f1 f3 f4 f5
    obtain ⟨o, e, c, d⟩ := id st'
    exact ⟨u, rfl, zn5 (s := { s with heap := h' }) e c d (by decide) ⟨x, H, I1, ru, ⟨rfl, fun ys hy => by rw [I.list_inj hy hq]; exact hx⟩, st', fun b hb => (hf b hb).1⟩⟩
  done := by
    intro X hP hw hK hc i pins s σ H E I hf st hg
    subst hP hw hK
    obtain ⟨xs, hq, hx⟩ := hg
    obtain ⟨its, rv, p, hz⟩ := I.list hq
    obtain ⟨f0, f1, f2, f3, f4, f5⟩ := hf it (by simp)
    have hl := rv.length
    exact wpAny_pyNext_list_end (I.ok.hd hc) st p.isList (by simp; omega) fun h' eb => ⟨rfl, I.turned (t' := s.toks) (fun b o hb e => eb b o hb e) f0 f1 f3 f4 f5⟩
  self := fun _ _ _ _ _ st h => wpAny_pyIter_listiter st h
theorem zq0 {P : Program} {w : World} {K : PySem.W.Frag} {tg : Expr} (a it : Addr) : Turn P w K tg (Itt K a) [it] it (fun i h => h.IsTupleIter it a i) where
  mem := by simp
  obj := fun i h st b hb => by
    have e : b = it := by simpa using hb
    subst e
    obtain ⟨o, e, c, d⟩ := st
    exact ⟨o, e, fun v z => by rw [d] at z; cases z⟩
  keep := fun i h h' st k => st.at fun o e => k it (by simp) o e
  item := by
    intro X hP hw hK hc i pins s σ H E I hf st hg
    subst hP hw hK
    obtain ⟨xs, x, hq, hx⟩ := hg
    obtain ⟨its, rv, p, hz⟩ := I.tuple hq
    obtain ⟨u, hu, ru⟩ := rv.get hx
    obtain ⟨f0, f1, f2, f3, f4, f5⟩ := hf it (by simp)
    refine wpAny_pyNext_tuple_item st (show s.heap.IsTuple a its.toArray from p) (x := u) (by simpa using hu) fun h' st' sb => ?_
    have I1 : Inv X pins σ H { s with heap := h' } := I.turned (t' := s.toks) (fun b o hb e => (sb.2 b hb).trans e) f0 f1 f3 f4 f5
    obtain ⟨o, e, c, d⟩ := id st'
    exact ⟨u, rfl, zn5 (s := { s with heap := h' }) e c d (by decide) ⟨x, H, I1, ru, ⟨rfl, fun ys hy => by rw [I.tuple_inj hy hq]; exact hx⟩, st', fun b hb => (hf b hb).1⟩⟩
  done := by
    intro X hP hw hK hc i pins s σ H E I hf st hg
    subst hP hw hK
    obtain ⟨xs, hq, hx⟩ := hg
    obtain ⟨its, rv, p, hz⟩ := I.tuple hq
    obtain ⟨f0, f1, f2, f3, f4, f5⟩ := hf it (by simp)
    have hl := rv.length
    exact wpAny_pyNext_tuple_end (I.ok.hd hc) st (show s.heap.IsTuple a its.toArray from p) (by simp; omega) fun h' eb => ⟨rfl, I.turned (t' := s.toks) (fun b o hb e => eb b o hb e) f0 f1 f3 f4 f5⟩
  self := fun _ _ _ _ _ st h => wpAny_pyIter_tupleiter st h
theorem zq1 {P : Program} {w : World} {K : PySem.W.Frag} {tg : Expr} (it : Addr) (lo : Int) (n : Nat) : Turn P w K tg (Itr lo n) [it] it (fun i h => IsRangeIter h it (lo + (i : Nat) * 1) ((n : Int) - (i : Nat)) 1) where
  mem := by simp
  obj := fun i h st b hb => by
    have e : b = it := by simpa using hb
    subst e
    exact ⟨_, st, fun v z => by
      have z' : Data.fields _ = Data.cell v := z
      cases z'⟩
  keep := fun i h h' st k => k it (by simp) _ st
  item := by
    intro X hP hw hK hc i pins s σ H E I hf st hg
    subst hP hw hK
    obtain ⟨f0, f1, f2, f3, f4, f5⟩ := hf it (by simp)
    have W := Walks.range (prog := X.prog) (w := X.w) (I.ok.hd hc) it lo 1 n
    refine W.item i s _ _ hg st fun v h' tk hv st' kk => ?_
    obtain ⟨t, rfl⟩ := hv
    have I1 : Inv X pins σ H { s with heap := h', toks := tk } := I.turned (fun b o hb e => kk b o (by simpa using hb) e) f0 f1 f3 f4 f5
    refine ⟨_, rfl, zn5 (s := { s with heap := h', toks := tk }) (n := "range_iterator") st' rfl rfl (by decide) ⟨.int (lo + i), H, I1, ⟨t, ?_⟩, ⟨rfl, rfl⟩, st', fun b hb => (hf b hb).1⟩⟩
    rw [Int.mul_one]
  done := by
    intro X hP hw hK hc i pins s σ H E I hf st hg
    subst hP hw hK
    obtain ⟨f0, f1, f2, f3, f4, f5⟩ := hf it (by simp)
    exact wpAny_pyNext_range_end (I.ok.hd hc) st (by have : n ≤ i := hg; omega) fun h' eb => ⟨rfl, I.turned (t' := s.toks) (fun b o hb e => eb b o hb e) f0 f1 f3 f4 f5⟩
  self := fun _ _ _ _ _ st h => wpAny_pyIter_rangeiter st h
end L2
namespace L2
open PySem PySem.Spec PyProof.Rows
section
variable {X : Cx} {tg : Expr}
def iList (K : PySem.W.Frag) (tl : TE) : TI := fun σ H R => tl σ H fun x H1 => ∃ a, x = .ref a /\ (∃ xs, SqL K H1 a xs) /\ R (Itl K a) H1
def iTup (K : PySem.W.Frag) (tl : TE) : TI := fun σ H R => tl σ H fun x H1 => ∃ a, x = .ref a /\ (∃ xs, SqT K H1 a xs) /\ R (Itt K a) H1
theorem zxv {l : Expr} {tl : TE} (hl : PE X l tl) : PI X tg l (iList X.K tl) := by
  intro pins s σ H R I h
  refine thn (hl pins s σ H _ I h) fun v s1 ⟨x, H1, I1, r1, q1⟩ => ?_
  obtain ⟨a, e, ⟨xs, hq⟩, q⟩ := q1
  subst e
  cases r1
  obtain ⟨its, rv, p, hz⟩ := I1.list hq
  refine wpAny_pyIter_list p.isList ?_
  refine ⟨s1.heap.objs.size, [s1.heap.objs.size], _, _, H1, rfl, I1.kept (t' := s1.toks) fun b o e => Heap.get?_push_of_some _ e, zsf a _, ⟨_, Heap.get?_push_size _ rfl, rfl, rfl⟩, fun b hb => ?_, q⟩
  have e : b = s1.heap.objs.size := by simpa using hb
  subst e
  exact I1.fpOk (Nat.le_refl _) (I1.hok.fresh (Nat.le_refl _))
theorem pi_tup {l : Expr} {tl : TE} (hl : PE X l tl) : PI X tg l (iTup X.K tl) := by
  intro pins s σ H R I h
  refine thn (hl pins s σ H _ I h) fun v s1 ⟨x, H1, I1, r1, q1⟩ => ?_
  obtain ⟨a, e, ⟨xs, hq⟩, q⟩ := q1
  subst e
  cases r1
  obtain ⟨its, rv, p, hz⟩ := I1.tuple hq
  refine wpAny_pyIter_tuple (show s1.heap.IsTuple a its.toArray from p) ?_
  refine ⟨s1.heap.objs.size, [s1.heap.objs.size], _, _, H1, rfl, I1.kept (t' := s1.toks) fun b o e => Heap.get?_push_of_some _ e, zq0 a _, ⟨_, Heap.get?_push_size _ rfl, rfl, rfl⟩, fun b hb => ?_, q⟩
  have e : b = s1.heap.objs.size := by simpa using hb
  subst e
  exact I1.fpOk (Nat.le_refl _) (I1.hok.fresh (Nat.le_refl _))
theorem zu1 {pins : List (Addr × Obj)} {σ : St} {H : Hp} {s : Shared} {R : It -> Hp -> Prop} {E : Value -> Shared -> Prop} {lo hi : Int} {t u v : Tok} {tk : Nat} (I : Inv X pins σ H s) (h1 : -(2 ^ 62) ≤ lo) (h2 : lo < 2 ^ 62) (h3 : -(2 ^ 62) ≤ hi) (h4 : hi < 2 ^ 62)
    (q : R (Itr lo (hi - lo).toNat) H) : wpAny (model X.prog X.w) X.A (pyIter (.ref s.heap.objs.size)) (PIE X pins σ tg R) E { s with heap := s.heap.push { cls := .type "range", data := .fields #[.int lo t, .int hi u, .int 1 v] }, toks := tk } := by
  refine wpAny_pyIter_range (IsRange.new ..) (small_one h1 h2 h3 h4) ?_
  have I1 : Inv X pins σ H { s with heap := s.heap.push { cls := .type "range", data := .fields #[.int lo t, .int hi u, .int 1 v] }, toks := tk } := I.kept fun b o e => Heap.get?_push_of_some _ e
  refine ⟨(s.heap.push { cls := .type "range", data := .fields #[.int lo t, .int hi u, .int 1 v] }).objs.size, [(s.heap.push { cls := .type "range", data := .fields #[.int lo t, .int hi u, .int 1 v] }).objs.size], _, _, H, rfl,
    I1.kept (t' := tk) fun b o e => Heap.get?_push_of_some _ e, zq1 _ lo (hi - lo).toNat, ?_, fun b hb => ?_, q⟩
  · have e1 : lo + ((0 : Nat) : Int) * 1 = lo := by simp
    have e2 : (((hi - lo).toNat : Nat) : Int) - ((0 : Nat) : Int) = Builtin.Range.rangeSize lo hi 1 := by rw [rangeSize_one]; split <;> omega
    show IsRangeIter _ _ (lo + ((0 : Nat) : Int) * 1) ((((hi - lo).toNat : Nat) : Int) - ((0 : Nat) : Int)) 1
    rw [e1, e2]
    exact Heap.get?_push_size _ rfl
  · have e : b = (s.heap.push { cls := .type "range", data := .fields #[.int lo t, .int hi u, .int 1 v] }).objs.size := by simpa using hb
    subst e
    exact I1.fpOk (Nat.le_refl _) (I1.hok.fresh (Nat.le_refl _))
def iRng1 (ta : TA) : TI := fun σ H R => ta σ H fun vs H1 => ∃ j : Int, vs = [.int j] /\ -(2 ^ 62) ≤ j /\ j < 2 ^ 62 /\ R (Itr 0 j.toNat) H1
theorem zs0 {a : Expr} {ta : TA} {p pos : Pos} (hg : Gl X "range") (hm : X.mg "range" = none) (ha : PA X [a] ta) (hs : starEach [a] X.env = [(false, eval a X.env)] := by rfl) : PI X tg (.Call (.Name "range" p) [a] [] pos) (iRng1 ta) := by
  intro pins s σ H R I h
  refine Call_ (zgy I hg hm boot_range (PyProof.Rows.callWith_type1 (thn (ha pos pins s σ H _ I h) fun us s1 ⟨vs, H1, I1, r1, q1⟩ => ?_) hs rfl))
  obtain ⟨j, e, q1, q2, q⟩ := q1
  subst e
  cases r1 with
  | cons r rr =>
    cases rr
    obtain ⟨t, rfl⟩ := r
    exact call_range_1 (zu1 I1 (by omega) (by omega) q1 q2 (by simpa using q))
def tFor (wi : TI) (g : TG) (tb : TS) : TS := fun D σ H => wi σ H fun J H1 => ∃ W : Nat -> Nat -> St -> Hp -> Prop, (∃ m, W 0 m σ H1) /\ ∀ i m σ H, W i m σ H ->
  (J.stop i H /\ D.nx σ H) \/ (J.go i H /\ ∃ N : St -> Hp -> Prop, (∀ σ' H', N σ' H' -> ∃ m', m' < m /\ W (i + 1) m' σ' H') /\ ∀ x H', J.yld i H x H' -> g x σ H' fun σ2 H2 => tb { D with nx := N, ct := N, bk := D.nx } σ2 H2)
def zk4 (fp : List Addr) (h : Heap) : List (Addr × Obj) := fp.filterMap fun b => (h.get? b).map fun o => (b, o)
theorem zg6 {fp : List Addr} {h : Heap} {b : Addr} {o : Obj} (hb : b ∈ fp) (e : h.get? b = some o) : (b, o) ∈ zk4 fp h := List.mem_filterMap.mpr ⟨b, hb, by rw [e]; rfl⟩
theorem zte {fp : List Addr} {h : Heap} {p : Addr × Obj} (hp : p ∈ zk4 fp h) : p.1 ∈ fp /\ h.get? p.1 = some p.2 := by
  obtain ⟨b, hb, e⟩ := List.mem_filterMap.mp hp
  cases q : h.get? b with
  | none => rw [q] at e; cases e
  | some o =>
    rw [q] at e
    have e' : (b, o) = p := Option.some.inj e
    subst e'
    exact ⟨hb, q⟩
theorem Inv.pinned {pins : List (Addr × Obj)} {σ : St} {H : Hp} {s : Shared} {fp : List Addr} (I : Inv X pins σ H s) (hf : ∀ b ∈ fp, zfx X pins H b) (ho : ∀ b ∈ fp, ∃ o, s.heap.get? b = some o /\ ∀ v, o.data ≠ .cell v) : Inv X (pins ++ zk4 fp s.heap) σ H s :=
  I.pins_of fun p hp => (List.mem_append.mp hp).elim (fun z => I.pin p (List.mem_append_right _ z)) fun z => by
    obtain ⟨hb, e⟩ := zte z
    obtain ⟨f0, f1, f2, _⟩ := hf p.1 hb
    obtain ⟨o, e', d⟩ := ho p.1 hb
    rw [e] at e'; cases e'
    exact ⟨e, f0, f1, f2, d⟩
theorem Inv.unpinned {pins pl : List (Addr × Obj)} {σ : St} {H : Hp} {s : Shared} (I : Inv X (pins ++ pl) σ H s) : Inv X pins σ H s := I.pins_of fun p hp => I.pin p (List.mem_append_right _ (List.mem_append_left _ hp))
theorem ps_for {iter : Expr} {body : List Stmt} {wi : TI} {g : TG} {tb : TS} {pos : Pos} (hp : PassesOwn (model X.prog X.w) X.A X.env X.xe) (hc : X.calm = true) (hi : PI X tg iter wi) (hg : PG X tg g) (hb : PSs X body tb)
    (hs : ∀ x, foldedSetIterable iter X.env x = pure x := by intro _; rfl) : PS X (.For tg iter body [] pos) (tFor wi g tb) := by
  intro pins s σ H D I h
  refine wpAny_For (thn (hi pins s σ H _ I h) fun v s1 h1 => thn h1 fun itv s2 h2 => ?_) hs
  obtain ⟨it, fp, tn, J, H2, e, I2, T, st2, f2, W, ⟨m0, w0⟩, turn⟩ := h2
  subst e
  have stat : ∀ {H' : Hp}, (∀ b ∈ fp, H' b = none) -> ∀ b ∈ fp, zfx X pins H' b := fun hn b hb => ⟨hn b hb, (f2 b hb).2⟩
  refine codeAny_forLoop_any (fun n s' => ∃ i σ' H', Inv X pins σ' H' s' /\ tn i s'.heap /\ (∀ b ∈ fp, H' b = none) /\ W i n σ' H') ?_ m0 ⟨0, σ, H2, I2, st2, fun b hb => (f2 b hb).1, w0⟩
  rintro n s3 ⟨i, σ3, H3, I3, st3, fr3, w3⟩
  rcases turn i n σ3 H3 w3 with ⟨stop, qn⟩ | ⟨go, N, hN, step⟩
  · refine wpAny_passesOwn hp (thn (T.done X rfl rfl rfl hc i pins s3 σ3 H3 X.xe I3 (stat fr3) st3 stop) fun r s4 ⟨hr, I4⟩ => ?_)
    subst hr
    exact wpAny_execs_nil ⟨σ3, H3, I4, qn⟩
  · refine wpAny_passesOwn hp (thn (T.item X rfl rfl rfl hc i pins s3 σ3 H3 X.xe I3 (stat fr3) st3 go) fun r s4 ⟨u, hr, h4⟩ => ?_)
    subst hr
    refine wpAny_passesOwn hp (thn h4 fun _ s5 ⟨x, H5, I5, r5, y5, st5, fr5⟩ => ?_)
    have I5' := I5.pinned (stat fr5) (T.obj _ _ st5)
    refine wpAny_passesOwn hp (thn (hg _ s5 σ3 H5 x u _ I5' r5 (step x H5 y5)) fun _ s6 ⟨σ6, H6, I6, q6⟩ => ?_)
    refine wpAny_passesOwn hp (thn (hb _ s6 σ6 H6 _ I6 q6) fun f s7 q7 => ?_)
    have again : ∀ {σ7 : St} {H7 : Hp}, Inv X (pins ++ zk4 fp s5.heap) σ7 H7 s7 -> N σ7 H7 -> ∃ m, m < n /\ ∃ i σ' H', Inv X pins σ' H' s7 /\ tn i s7.heap /\ (∀ b ∈ fp, H' b = none) /\ W i m σ' H' := fun {σ7 H7} I7 n7 => by
      obtain ⟨m', hm, w7⟩ := hN σ7 H7 n7
      refine ⟨m', hm, i + 1, σ7, H7, I7.unpinned, T.keep _ _ _ st5 fun b hb o e => (I7.pin (b, o) (List.mem_append_right _ (List.mem_append_right _ (zg6 hb e)))).1, fun b hb => ?_, w7⟩
      obtain ⟨o, e, d⟩ := T.obj _ _ st5 b hb
      exact (I7.pin (b, o) (List.mem_append_right _ (List.mem_append_right _ (zg6 hb e)))).2.1
    cases f with
    | next => obtain ⟨σ7, H7, I7, n7⟩ := q7; exact again I7 n7
    | cont => obtain ⟨σ7, H7, I7, n7⟩ := q7; exact again I7 n7
    | brk => obtain ⟨σ7, H7, I7, q7⟩ := q7; exact ⟨σ7, H7, I7.unpinned, q7⟩
    | ret v => obtain ⟨x7, σ7, H7, I7, r7, q7⟩ := q7; exact ⟨x7, σ7, H7, I7.unpinned, r7, q7⟩
end
end L2
namespace L2
open PySem PySem.Spec PyProof.Rows
abbrev R2 := V -> V -> Hp -> VK -> Prop
def OpR (X : Cx) (f : Value -> Value -> Sem Value) (r : R2) : Prop :=
  ∀ (pins : List (Addr × Obj)) (s : Shared) (σ : St) (H : Hp) (x y : V) (v u : Value) (Q : VK), Inv X pins σ H s -> RelV x v -> RelV y u -> r x y H Q ->
    wpAny (model X.prog X.w) X.A (f v u) (EP X pins σ Q) X.xe s
def UnR (X : Cx) (f : Value -> Sem Value) (r : V -> Hp -> VK -> Prop) : Prop :=
  ∀ (pins : List (Addr × Obj)) (s : Shared) (σ : St) (H : Hp) (x : V) (v : Value) (Q : VK), Inv X pins σ H s -> RelV x v -> r x H Q ->
    wpAny (model X.prog X.w) X.A (f v) (EP X pins σ Q) X.xe s
def zdl (X : Cx) (f : Value) (r : List V -> Hp -> VK -> Prop) : Prop :=
  ∀ (pins : List (Addr × Obj)) (s : Shared) (σ : St) (H : Hp) (xs : List V) (us : List Value) (Q : VK), Inv X pins σ H s -> Vals xs us -> r xs H Q ->
    wpAny (model X.prog X.w) X.A (call f us) (EP X pins σ Q) X.xe s
def TruR (X : Cx) (r : V -> Hp -> (Bool -> Hp -> Prop) -> Prop) : Prop :=
  ∀ (pins : List (Addr × Obj)) (s : Shared) (σ : St) (H : Hp) (x : V) (v : Value) (Q : Bool -> Hp -> Prop), Inv X pins σ H s -> RelV x v -> r x H Q ->
    wpAny (model X.prog X.w) X.A (truthy v) (TP X pins σ Q) X.xe s
def tOp (r : R2) (ta tb : TE) : TE := fun σ H Q => ta σ H fun x H1 => tb σ H1 fun y H2 => r x y H2 Q
def tUn (r : V -> Hp -> VK -> Prop) (ta : TE) : TE := fun σ H Q => ta σ H fun x H1 => r x H1 Q
def rI (C : Int -> Int -> Prop) (g : Int -> Int -> V) : R2 := fun x y H Q => ∃ i j, x = .int i /\ y = .int j /\ C i j /\ Q (g i j) H
def rI0 (g : Int -> Int -> V) : R2 := fun x y H Q => ∃ i j, x = .int i /\ y = .int j /\ Q (g i j) H
def rU (g : Int -> V) : V -> Hp -> VK -> Prop := fun x H Q => ∃ i, x = .int i /\ Q (g i) H
section
variable {X : Cx} {a b c : Expr} {ta tb tc : TE} {pos : Pos}
theorem binT (ha : PE X a ta) (hb : PE X b tb) {pins : List (Addr × Obj)} {s : Shared} {σ : St} {H : Hp} {R : V -> V -> Hp -> Prop} (I : Inv X pins σ H s)
    (h : ta σ H fun x H1 => tb σ H1 fun y H2 => R x y H2) {Q : Value -> Shared -> Prop} {f : Value -> Value -> Sem Value}
    (hf : ∀ v u s2 x y H2, Inv X pins σ H2 s2 -> RelV x v -> RelV y u -> R x y H2 -> wpAny (model X.prog X.w) X.A (f v u) Q X.xe s2) :
    wpAny (model X.prog X.w) X.A (eval a X.env) (fun v s₁ => wpAny (model X.prog X.w) X.A (eval b X.env) (fun u s₂ => wpAny (model X.prog X.w) X.A (f v u) Q X.xe s₂) X.xe s₁) X.xe s := by
  refine thn (ha pins s σ H _ I h) fun v s1 ⟨x, H1, I1, r1, q1⟩ => ?_
  refine thn (hb pins s1 σ H1 _ I1 q1) fun u s2 ⟨y, H2, I2, r2, q2⟩ => ?_
  exact hf v u s2 x y H2 I2 r1 r2 q2
theorem pe_op {op : Operator} {r : R2} (ho : OpR X (binaryOp op) r) (ha : PE X a ta) (hb : PE X b tb) : PE X (.BinOp a op b pos) (tOp r ta tb) := by
  intro pins s σ H Q I h
  exact wpAny_BinOp (binT ha hb I h fun v u s2 x y H2 I2 rx ry q => ho pins s2 σ H2 x y v u Q I2 rx ry q)
theorem pe_un {op : UnaryOp} {r : V -> Hp -> VK -> Prop} (ho : UnR X (unaryOp op) r) (ha : PE X a ta) : PE X (.UnaryOp op a pos) (tUn r ta) := by
  intro pins s σ H Q I h
  exact UnaryOp_ (thn (ha pins s σ H _ I h) fun v s1 ⟨x, H1, I1, r1, q1⟩ => ho pins s1 σ H1 x v Q I1 r1 q1)
theorem opI {f : Value -> Value -> Sem Value} {C : Int -> Int -> Prop} {g : Int -> Int -> Int}
    (rule : ∀ (i j : Int) (t u : Tok) (s : Shared) (Q : Value -> Shared -> Prop) (E : Value -> Shared -> Prop), C i j -> Q (.int (g i j) s.toks) { s with toks := s.toks + 1 } -> wpAny (model X.prog X.w) X.A (f (.int i t) (.int j u)) Q E s) :
    OpR X f (rI C fun i j => .int (g i j)) := by
  intro pins s σ H x y v u Q I rx ry h
  obtain ⟨i, j, rfl, rfl, hc, q⟩ := h
  obtain ⟨t, rfl⟩ := rx
  obtain ⟨t', rfl⟩ := ry
  exact rule i j t t' s _ _ hc ⟨.int (g i j), H, I.tok _, ⟨_, rfl⟩, q⟩
theorem opI0 {f : Value -> Value -> Sem Value} {g : Int -> Int -> Int}
    (rule : ∀ (i j : Int) (t u : Tok) (s : Shared) (Q : Value -> Shared -> Prop) (E : Value -> Shared -> Prop), Q (.int (g i j) s.toks) { s with toks := s.toks + 1 } -> wpAny (model X.prog X.w) X.A (f (.int i t) (.int j u)) Q E s) :
    OpR X f (rI0 fun i j => .int (g i j)) := by
  intro pins s σ H x y v u Q I rx ry h
  obtain ⟨i, j, rfl, rfl, q⟩ := h
  obtain ⟨t, rfl⟩ := rx
  obtain ⟨t', rfl⟩ := ry
  exact rule i j t t' s _ _ ⟨.int (g i j), H, I.tok _, ⟨_, rfl⟩, q⟩
theorem opB0 {f : Value -> Value -> Sem Value} {g : Int -> Int -> Bool}
    (rule : ∀ (i j : Int) (t u : Tok) (s : Shared) (Q : Value -> Shared -> Prop) (E : Value -> Shared -> Prop), Q (.bool (g i j)) s -> wpAny (model X.prog X.w) X.A (f (.int i t) (.int j u)) Q E s) :
    OpR X f (rI0 fun i j => .bl (g i j)) := by
  intro pins s σ H x y v u Q I rx ry h
  obtain ⟨i, j, rfl, rfl, q⟩ := h
  obtain ⟨t, rfl⟩ := rx
  obtain ⟨t', rfl⟩ := ry
  exact rule i j t t' s _ _ ⟨.bl (g i j), H, I, rfl, q⟩
def CDiv (i j : Int) : Prop := 0 < j /\ j < 1073741824
def CPow (i j : Int) : Prop := 0 ≤ j /\ j ≤ 1000000 /\ i.natAbs < 2 ^ 64
def CMul (i j : Int) : Prop := (-(2 ^ 64) < i /\ i < 2 ^ 64) \/ (-(2 ^ 64) < j /\ j < 2 ^ 64)
theorem CMul.ok {i j : Int} (h : CMul i j) : IntMulOk i j := by
  rcases h with ⟨h1, h2⟩ | ⟨h1, h2⟩
  · exact .of_left (intBits_le_64 h1 h2)
  · exact .of_right (intBits_le_64 h1 h2)
theorem op_add : OpR X (binaryOp .Add) (rI0 fun i j => .int (i + j)) := opI0 fun _ _ _ _ _ _ _ q => add_int q
theorem op_sub : OpR X (binaryOp .Sub) (rI0 fun i j => .int (i - j)) := opI0 fun _ _ _ _ _ _ _ q => sub_int q
theorem op_mul : OpR X (binaryOp .Mult) (rI CMul fun i j => .int (i * j)) := opI fun _ _ _ _ _ _ _ hc q => mul_int q hc.ok
theorem zx3 : OpR X (binaryOp .FloorDiv) (rI CDiv fun i j => .int (i / j)) := opI fun i j _ _ _ _ _ hc q => by
  have h1 : (0 : Int) < j := hc.1
  have h2 : j < 1073741824 := hc.2
  exact floordiv_int (by omega) (by rw [Int.fdiv_eq_ediv_of_nonneg i (by omega)]; exact q) (.inl (PyProof.noPylong_small (by omega)))
theorem op_mod : OpR X (binaryOp .Mod) (rI (fun _ j => 0 < j) fun i j => .int (i % j)) := opI fun i j _ _ _ _ _ hc q => by
  have h1 : (0 : Int) < j := hc
  exact mod_int' (by omega) (by rw [Int.fmod_eq_emod_of_nonneg i (by omega)]; exact q)
theorem op_pow : OpR X (binaryOp .Pow) (rI CPow fun i j => .int (i ^ j.toNat)) := opI fun _ _ _ _ _ _ _ hc q => pow_int_small hc.1 hc.2.1 hc.2.2 q
theorem unI {f : Value -> Sem Value} {g : Int -> Int}
    (rule : ∀ (i : Int) (t : Tok) (s : Shared) (Q : Value -> Shared -> Prop) (E : Value -> Shared -> Prop), Q (.int (g i) s.toks) { s with toks := s.toks + 1 } -> wpAny (model X.prog X.w) X.A (f (.int i t)) Q E s) :
    UnR X f (rU fun i => .int (g i)) := by
  intro pins s σ H x v Q I rx h
  obtain ⟨i, rfl, q⟩ := h
  obtain ⟨t, rfl⟩ := rx
  exact rule i t s _ _ ⟨.int (g i), H, I.tok _, ⟨_, rfl⟩, q⟩
theorem zsd : UnR X (unaryOp .USub) (rU fun i => .int (-i)) := unI fun _ _ _ _ _ q => neg_int q
end
section
variable {X : Cx} {a b c : Expr} {ta tb tc : TE} {pos : Pos}
theorem zjh {pins : List (Addr × Obj)} {σ : St} {H : Hp} {s : Shared} {Q : VK} {k k' : Bool} (I : Inv X pins σ H s) (q : Q (.bl k) H) (e : k = k') : EP X pins σ Q (.bool k') s := by
  subst e
  exact ⟨.bl k, H, I, rfl, q⟩
theorem op_lt : OpR X (compareOp .Lt) (rI0 fun i j => .bl (decide (i < j))) := opB0 fun _ _ _ _ _ _ _ q => lt_int q
theorem op_le : OpR X (compareOp .LtE) (rI0 fun i j => .bl (decide (i ≤ j))) := opB0 fun _ _ _ _ _ _ _ q => le_int q
theorem op_gt : OpR X (compareOp .Gt) (rI0 fun i j => .bl (decide (j < i))) := opB0 fun _ _ _ _ _ _ _ q => gt_int q
theorem op_ge : OpR X (compareOp .GtE) (rI0 fun i j => .bl (decide (j ≤ i))) := opB0 fun _ _ _ _ _ _ _ q => ge_int q
theorem ztd : OpR X (compareOp .In) (fun x y H Q => ∃ i j, x = .str i /\ y = .str j /\ Q (.bl (!(Builtin.Str.occurrences j i 0 j.length 1).isEmpty)) H) := by
  intro pins s σ H x y v u Q I rx ry h
  obtain ⟨i, j, rfl, rfl, q⟩ := h
  obtain ⟨t, rfl⟩ := rx
  obtain ⟨t', rfl⟩ := ry
  exact in_str (zjh I q rfl)
theorem op_isN : OpR X (compareOp .Is) (fun x y H Q => y = .non /\ Q (.bl (decide (x = .non))) H) := by
  intro pins s σ H x y v u Q I rx ry h
  obtain ⟨rfl, q⟩ := h
  cases ry
  refine is_none_gen (zjh I q ?_)
  cases x <;> first
    | (cases rx; rfl)
    | (obtain ⟨t, rfl⟩ := rx; rfl)
theorem zx2 : OpR X (compareOp .IsNot) (fun x y H Q => y = .non /\ Q (.bl (!decide (x = .non))) H) := by
  intro pins s σ H x y v u Q I rx ry h
  obtain ⟨rfl, q⟩ := h
  cases ry
  refine isnot_none_gen (zjh I q ?_)
  cases x <;> first
    | (cases rx; rfl)
    | (obtain ⟨t, rfl⟩ := rx; rfl)
theorem zo4 : OpR X (compareOp .NotIn) (fun x y H Q => ∃ i j, x = .str i /\ y = .str j /\ Q (.bl (!(!(Builtin.Str.occurrences j i 0 j.length 1).isEmpty))) H) := by
  intro pins s σ H x y v u Q I rx ry h
  obtain ⟨i, j, rfl, rfl, q⟩ := h
  obtain ⟨t, rfl⟩ := rx
  obtain ⟨t', rfl⟩ := ry
  exact notIn_str (zjh I q rfl)
theorem OpR.or {f : Value -> Value -> Sem Value} {r r' : R2} (h : OpR X f r) (h' : OpR X f r') : OpR X f (fun x y H Q => r x y H Q \/ r' x y H Q) := by
  intro pins s σ H x y v u Q I rx ry q
  rcases q with q | q
  · exact h pins s σ H x y v u Q I rx ry q
  · exact h' pins s σ H x y v u Q I rx ry q
theorem zxx {op : CmpOp} {r : R2} (ho : OpR X (compareOp op) r) (ha : PE X a ta) (hb : PE X b tb) (hm : behindInMarks op b = false) : PE X (.Compare a [op] [b] pos) (tOp r ta tb) := by
  intro pins s σ H Q I h
  exact wpAny_Compare1 (binT ha hb I h fun v u s2 x y H2 I2 rx ry q => ho pins s2 σ H2 x y v u Q I2 rx ry q) hm
def tTest (t : TE) : TT := fun σ H Q => t σ H fun x H' => ∃ k, x = .bl k /\ Q k H'
theorem zma {op : CmpOp} {r : R2} (ho : OpR X (compareOp op) r) (ha : PE X a ta) (hb : PE X b tb) (hm : behindInMarks op b = false) : PT X (.Compare a [op] [b] pos) (tTest (tOp r ta tb)) := by
  intro pins s σ H Q I h
  refine wpAny_isTrue_Compare1 (thn (ha pins s σ H _ I h) fun v s1 ⟨x, H1, I1, r1, q1⟩ => thn (hb pins s1 σ H1 _ I1 q1) fun u s2 ⟨y, H2, I2, r2, q2⟩ =>
    thn (ho pins s2 σ H2 x y v u _ I2 r1 r2 q2) fun c s3 ⟨z, H3, I3, r3, k, e, q3⟩ => ?_) hm
  subst e
  cases r3
  exact wpAny_truthy_bool ⟨H3, I3, q3⟩
def zoh (r r' : R2) (ta tb tc : TE) : TE := fun σ H Q => ta σ H fun x H1 => tb σ H1 fun y H2 => r x y H2 fun z H3 => ∃ k, z = .bl k /\
  (if k = true then tc σ H3 fun w' H4 => r' y w' H4 Q else Q (.bl false) H3)
theorem zu9 {op op' : CmpOp} {r r' : R2} (ho : OpR X (compareOp op) r) (ho' : OpR X (compareOp op') r') (ha : PE X a ta) (hb : PE X b tb) (hc : PE X c tc)
    (hm : lastMarks [op, op'] [b, c] = false := by with_unfolding_all rfl) : PE X (.Compare a [op, op'] [b, c] pos) (zoh r r' ta tb tc) := by
  intro pins s σ H Q I h
  refine Compare_chain (thn (ha pins s σ H _ I h) fun v s1 ⟨x, H1, I1, r1, q1⟩ => chain_link (thn (hb pins s1 σ H1 _ I1 q1) fun u s2 ⟨y, H2, I2, r2, q2⟩ =>
    thn (ho pins s2 σ H2 x y v u _ I2 r1 r2 q2) fun d s3 ⟨z, H3, I3, r3, k, e, q3⟩ => ?_)) hm
  subst e
  cases r3
  refine wpAny_truthy_bool ?_
  cases k with
  | false => exact ite_ff ⟨.bl false, H3, I3, rfl, q3⟩
  | true => exact ite_tt (chain_last (thn (hc pins s3 σ H3 _ I3 q3) fun w' s4 ⟨z', H4, I4, r4, q4⟩ => ho' pins s4 σ H4 y z' u w' Q I4 r2 r4 q4))
theorem zu4 {op op' : CmpOp} {r r' : R2} (ho : OpR X (compareOp op) r) (ho' : OpR X (compareOp op') r') (ha : PE X a ta) (hb : PE X b tb) (hc : PE X c tc)
    (hm : lastMarks [op, op'] [b, c] = false := by with_unfolding_all rfl) : PT X (.Compare a [op, op'] [b, c] pos) (tTest (zoh r r' ta tb tc)) := by
  intro pins s σ H Q I h
  refine isTrue_chain (thn (ha pins s σ H _ I h) fun v s1 ⟨x, H1, I1, r1, q1⟩ => test_link (thn (hb pins s1 σ H1 _ I1 q1) fun u s2 ⟨y, H2, I2, r2, q2⟩ =>
    thn (ho pins s2 σ H2 x y v u _ I2 r1 r2 q2) fun d s3 ⟨z, H3, I3, r3, k, e, q3⟩ => ?_)) hm
  subst e
  cases r3
  refine wpAny_truthy_bool ?_
  cases k with
  | false =>
    obtain ⟨k', e', q'⟩ := q3
    cases e'
    exact ite_ff ⟨H3, I3, q'⟩
  | true =>
    refine ite_tt (test_last (thn (hc pins s3 σ H3 _ I3 q3) fun w' s4 ⟨z', H4, I4, r4, q4⟩ => thn (ho' pins s4 σ H4 y z' u w' _ I4 r2 r4 q4) fun d' s5 ⟨z2, H5, I5, r5, k2, e2, q5⟩ => ?_))
    subst e2
    cases r5
    exact wpAny_truthy_bool ⟨H5, I5, q5⟩
def TruV (K : PySem.W.Frag) (x : V) (H : Hp) (k : Bool) : Prop :=
  match x with
  | .non => k = false
  | .bl b => k = b
  | .int i => k = (i != 0)
  | .str y => y.length ≤ sizeLine /\ k = ((y.length : Int) != 0)
  | .byt y => y.size ≤ sizeLine /\ k = ((y.size : Int) != 0)
  | .ref p => (∃ xs, SqL K H p xs /\ k = !xs.isEmpty) \/ (∃ xs, SqT K H p xs /\ k = !xs.isEmpty) \/ ∃ kvs, H p = some (.dK kvs) /\ k = !kvs.isEmpty
  | _ => False
theorem zrv {κ : Type} {kvs : List (κ × V)} {vs : List (κ × Value)} (r : KV kvs vs) : (!vs.isEmpty) = !kvs.isEmpty := by
  cases r <;> rfl
theorem zln {xs : List V} {its : List Value} (r : Vals xs its) : (!its.toArray.isEmpty) = !xs.isEmpty := by
  cases r <;> simp
theorem zhs : (sizeLine : Nat) < 2 ^ 63 := by rw [sizeLine_eq]; decide
theorem tru_ok : TruR X (fun x H Q => ∃ k, TruV X.K x H k /\ Q k H) := by
  intro pins s σ H x v Q I rx h
  obtain ⟨k, e, q⟩ := h
  have hl := zhs
  have hs : sizeLine = 16777216 := sizeLine_eq
  cases x with
  | non =>
    cases rx
    have e' : k = false := e
    subst e'
    exact truthy_none ⟨H, I, q⟩
  | bl b =>
    cases rx
    have e' : k = b := e
    subst e'
    exact wpAny_truthy_bool ⟨H, I, q⟩
  | int i =>
    obtain ⟨t, rfl⟩ := rx
    have e' : k = (i != 0) := e
    subst e'
    exact PySem.P.truthy_int ⟨H, I, q⟩
  | str y =>
    obtain ⟨t, rfl⟩ := rx
    obtain ⟨hy, e'⟩ : y.length ≤ sizeLine /\ k = ((y.length : Int) != 0) := e
    subst e'
    exact PySem.P.truthy_str (by omega) ⟨H, I.tok _, q⟩
  | byt y =>
    obtain ⟨t, rfl⟩ := rx
    obtain ⟨hy, e'⟩ : y.size ≤ sizeLine /\ k = ((y.size : Int) != 0) := e
    subst e'
    exact PySem.W.truthy_bytes (by omega) ⟨H, I.tok _, q⟩
  | ref p =>
    cases rx
    have e' : (∃ xs, SqL X.K H p xs /\ k = !xs.isEmpty) \/ (∃ xs, SqT X.K H p xs /\ k = !xs.isEmpty) \/ ∃ kvs, H p = some (.dK kvs) /\ k = !kvs.isEmpty := e
    rcases e' with ⟨xs, hx, e'⟩ | ⟨xs, hx, e'⟩ | ⟨kvs, hx, e'⟩
    · subst e'
      obtain ⟨its, r, pl, hz⟩ := I.list hx
      have hlen := r.length
      exact wpAny_truthy_list pl.isList (by simp only [List.size_toArray]; omega) ⟨H, I.tok _, by rw [zln r]; exact q⟩
    · subst e'
      obtain ⟨its, r, pl, hz⟩ := I.tuple hx
      have hlen := r.length
      exact truthy_tuple pl (by simp only [List.size_toArray]; omega) ⟨H, I.tok _, by rw [zln r]; exact q⟩
    · subst e'
      obtain ⟨hz, hS, vs, r, m⟩ : kvs.length ≤ sizeLine /\ (p == sysModules) = false /\ ∃ vs, KV kvs vs /\ s.heap.DictOf (zig X.prog X.w) p vs := I.hok p _ hx
      have hlen : kvs.length = vs.length := Paired.length r
      exact wpAny_truthy_dict hS m (by omega) ⟨H, I.tok _, by rw [zrv r]; exact q⟩
  | _ => exact (show False from e).elim
theorem zu3 (ha : PE X a ta) (he : ∀ whole, isTrue a X.env whole = (do let v <- whole; standAt a.pos; holding [v] (truthy v))) :
    PT X a (fun σ H Q => ta σ H fun x H' => ∃ k, TruV X.K x H' k /\ Q k H') := by
  intro pins s σ H Q I h
  exact isTrue_plain (thn (ha pins s σ H _ I h) fun v s1 ⟨x, H1, I1, r1, q1⟩ => tru_ok pins s1 σ H1 x v Q I1 r1 q1) (he _)
theorem zrh : OpR X (binaryOp .Add) (fun x y H Q => ∃ i j, x = .str i /\ y = .str j /\ i.length + j.length ≤ sizeLine /\ Q (.str (i ++ j)) H) := by
  intro pins s σ H x y v u Q I rx ry h
  obtain ⟨i, j, rfl, rfl, hz, q⟩ := h
  obtain ⟨t, rfl⟩ := rx
  obtain ⟨t', rfl⟩ := ry
  exact add_str (fun t' tk => ⟨.str (i ++ j), H, I.tok _, ⟨_, rfl⟩, q⟩) hz
theorem vals1 {x : V} {us : List Value} (r : Vals [x] us) : ∃ u, us = [u] /\ RelV x u := by
  cases r with
  | cons r1 r2 => cases r2; exact ⟨_, rfl, r1⟩
theorem vals2 {x y : V} {us : List Value} (r : Vals [x, y] us) : ∃ u w', us = [u, w'] /\ RelV x u /\ RelV y w' := by
  cases r with
  | cons r1 r2 =>
    cases r2 with
    | cons r3 r4 => cases r4; exact ⟨_, _, rfl, r1, r3⟩
end
end L2
namespace L2
open PySem PySem.Spec PyProof.Rows
structure ObjM (h : Heap) (x dx C : Addr) (mA : Str -> Option Value) : Prop where
  obj : h.get? x = some (PySem.W.instObj C dx)
  ns : h.Ns1 dx mA
  ne : dx ≠ x
theorem ztl {h : Heap} {dx : Addr} {mA : Str -> Option Value} (n : h.Ns1 dx mA) : ∃ od, h.get? dx = some od /\ ∀ name, PySem.W.lookIn name od = some (mA name) := by
  obtain ⟨o, es, ep, ho, hd, hk, _, hm⟩ := n
  refine ⟨o, ho, fun name => ?_⟩
  have e := hm name
  unfold nsFind findBy at e
  rw [<- Array.find?_toList] at e
  unfold PySem.W.lookIn
  rw [hd]
  dsimp only
  split
  · rename_i y q
    rw [q] at e
    exact congrArg some e
  · rename_i q
    rw [q] at e
    have a : es.toList.any (·.refKey) = false := by
      rw [List.any_eq_false]
      intro y hy
      obtain ⟨z, t, hkey⟩ := hk y (Array.mem_toList_iff.mp hy)
      simp [DictEntry.refKey, hkey]
    have a' : ¬ es.toList.any (·.refKey) = true := by rw [a]; exact Bool.false_ne_true
    rw [if_neg a']
    exact congrArg some e
theorem ObjM.look {h : Heap} {x dx C : Addr} {mA : Str -> Option Value} (I : ObjM h x dx C mA) : ∃ od, PySem.W.InstAt h x (PySem.W.instObj C dx) C (some od) /\ ∀ name, PySem.W.lookIn name od = some (mA name) :=
  let ⟨od, ho, hl⟩ := ztl I.ns
  ⟨od, ⟨I.obj, rfl, rfl, ho⟩, hl⟩
section
variable {prog : Program} {w : World} {A : Around} {E : Value -> Shared -> Prop} {s : Shared} {K : PySem.W.Frag} {x dx C f : Addr} {mA : Str -> Option Value} {name : Str} {v : Value}
end
section
variable {P : Program} {w : World} {H H' : Hp} {h h' : Heap} {a C dx : Addr} {fs fs' : List (Str × V)}
theorem zyc (hok : HOk P w H h) (e : H a = some (.ins C dx fs)) : ∃ mA, ObjM h a dx C mA /\ (∀ f, RelO (fs.lookup f) (mA f)) /\ PySem.Within mA (fs.map (·.1)) /\ fs.length ≤ 1000 /\ H dx = some (.own a) := by
  obtain ⟨d, z, ne, ob, mA, n, r, q⟩ := (show zdg P w H h a (.ins C dx fs) from hok a _ e)
  exact ⟨mA, ⟨ob, n, ne⟩, r, q, z, d⟩
end
structure Cls (K : PySem.W.Frag) (C : Addr) : Prop where
  pg : PySem.W.plainGet K C Str.empty = true
  hd : PySem.W.hasDictIn K C = true
  po : PySem.W.plainOver K C = true
  sa : PySem.W.findIn K (.ref C) "__setattr__" = some (some (.builtin "object.__setattr__"))
theorem Cls.get {K : PySem.W.Frag} {C : Addr} (c : Cls K C) (f : Str) : PySem.W.plainGet K C f = true := c.pg
section
variable {X : Cx} {pins : List (Addr × Obj)} {σ : St} {H : Hp} {s : Shared} {a C dx : Addr} {fs : List (Str × V)} {f : Str} {v : V} {A : Around} {E : Value -> Shared -> Prop}
end
section
variable {X : Cx} {o e value : Expr} {f : Str} {pos pos' tpos : Pos} {ta tv : TE}
end
section
variable {X : Cx} {pins : List (Addr × Obj)} {σ : St} {H : Hp} {s : Shared} {A : Around} {E : Value -> Shared -> Prop} {Q : Value -> Shared -> Prop} {c : Value} {b : Bool}
inductive zg3 (K : PySem.W.Frag) (H : Hp) : V -> Value -> Prop where
  | non : zg3 K H .non (.type "NoneType")
  | bl (x : Bool) : zg3 K H (.bl x) (.type "bool")
  | int (i : Int) : zg3 K H (.int i) (.type "int")
  | str (x : Str) : zg3 K H (.str x) (.type "str")
  | flt (x : UInt64) : zg3 K H (.flt x) (.type "float")
  | lst {a : Addr} {xs : List V} (e : H a = some (.lst xs)) : zg3 K H (.ref a) (.type "list")
  | frz {a : Addr} {o : Obj} {xs : List V} (e : H a = some (.frz o (.lst xs))) : zg3 K H (.ref a) (.type "list")
  | tup {a : Addr} {xs : List V} (e : H a = some (.tup xs)) : zg3 K H (.ref a) (.type "tuple")
  | dK {a : Addr} {kvs : List (Key × V)} (e : H a = some (.dK kvs)) : zg3 K H (.ref a) (.type "dict")
  | dT {a : Addr} {kvs : List (List Key × V)} (e : H a = some (.dT kvs)) : zg3 K H (.ref a) (.type "dict")
  | ins {a C dx : Addr} {fs : List (Str × V)} (e : H a = some (.ins C dx fs)) (cl : Cls K C) (ha : PySem.W.findIn K (.ref C) "__class__" = some (some (.builtin "object.__class__")))
      (hn : PySem.W.specialIn K (.builtin "object.__class__") "__get__" = some (some (.builtin "getset_descriptor.__get__"))) (htk : PySem.W.takesIn K (.builtin "object.__class__") = some true)
      (hm : PySem.W.mroIn K C (.type "object") = some true) : zg3 K H (.ref a) (.ref C)
theorem zhw {x : V} {u t : Value} (I : Inv X pins σ H s) (rx : RelV x u) (ty : zg3 X.K H x t) (e : PySem.W.kitOne X.K t c = some b) (h : ∀ tk, Q (.bool b) { s with toks := tk }) :
    wpAny (model X.prog X.w) A (call (.builtin "isinstance") [u, c]) Q E s := by
  cases ty with
  | non => cases (show u = Value.none from rx); exact PySem.W.kia_one PySem.W.kitx_none I.kIn True.intro e (fun z => nomatch z) h
  | bl y => cases (show u = Value.bool y from rx); exact PySem.W.kia_one PySem.W.kitx_bool I.kIn True.intro e (fun z => nomatch z) h
  | int i => obtain ⟨t, q⟩ := (show ∃ t, u = Value.int i t from rx); cases q; exact PySem.W.kia_one PySem.W.kitx_int I.kIn True.intro e (fun z => nomatch z) h
  | str y => obtain ⟨t, q⟩ := (show ∃ t, u = Value.str y t from rx); cases q; exact PySem.W.kia_one PySem.W.kitx_str I.kIn True.intro e (fun z => nomatch z) h
  | flt y => obtain ⟨t, q⟩ := (show ∃ t, u = Value.float y t from rx); cases q; exact PySem.W.kia_one PySem.W.kitx_float I.kIn True.intro e (fun z => nomatch z) h
  | @lst a xs ea =>
    cases (show u = Value.ref a from rx)
    obtain ⟨_, _, n, _, h1⟩ := (show zdg X.prog X.w H s.heap a (.lst xs) from I.hok a _ ea)
    exact PySem.W.kia_one PySem.W.kitx_list I.kIn ⟨_, h1, rfl⟩ e (fun z => nomatch z) h
  | @frz a ob xs ea =>
    cases (show u = Value.ref a from rx)
    obtain ⟨_, _, _, n, _, h1⟩ := (show zdg X.prog X.w H s.heap a (.frz ob (.lst xs)) from I.hok a _ ea)
    exact PySem.W.kia_one PySem.W.kitx_list I.kIn ⟨_, h1, rfl⟩ e (fun z => nomatch z) h
  | @tup a xs ea =>
    cases (show u = Value.ref a from rx)
    obtain ⟨_, _, _, p⟩ := (show zdg X.prog X.w H s.heap a (.tup xs) from I.hok a _ ea)
    obtain ⟨o, h1, h2, _⟩ := p
    exact PySem.W.kia_one PySem.W.kitx_tuple I.kIn ⟨o, h1, h2⟩ e (fun z => nomatch z) h
  | @dK a kvs ea =>
    cases (show u = Value.ref a from rx)
    obtain ⟨_, _, vs, _, p⟩ := (show zdg X.prog X.w H s.heap a (.dK kvs) from I.hok a _ ea)
    obtain ⟨o, es, ep, h1, h2, _⟩ := p
    exact PySem.W.kia_one PySem.W.kitx_dict I.kIn ⟨o, h1, h2.1⟩ e (fun z => nomatch z) h
  | @dT a kvs ea =>
    cases (show u = Value.ref a from rx)
    obtain ⟨_, _, xs, _, o, es, ep, h1, h2, _⟩ := (show zdg X.prog X.w H s.heap a (.dT kvs) from I.hok a _ ea)
    exact PySem.W.kia_one PySem.W.kitx_dict I.kIn ⟨o, h1, h2.1⟩ e (fun z => nomatch z) h
  | @ins a C dx fs ea cl ha hn htk hm =>
    cases (show u = Value.ref a from rx)
    obtain ⟨mA, O, _⟩ := zyc I.hok ea
    obtain ⟨od, J, _⟩ := O.look
    exact PySem.W.kia_one (PySem.W.kitx_own (cl.get _) cl.hd ha hn htk hm) I.kIn J e (fun z => nomatch z) h
end
end L2
namespace L2
open PySem PySem.Spec PyProof.Rows
structure zbk (k : Nat) (A : Around) : Prop where
  hd : A.handled = none
  dp : A.depth + 3 * k + 5 < recursionLimit
  un : A.units + 16 * k + 200 < cLine
theorem zbk.mono {j k : Nat} {A : Around} (r : zbk k A) (h : j ≤ k) : zbk j A := ⟨r.hd, by have := r.dp; omega, by have := r.un; omega⟩
theorem zbk.deeper {k : Nat} {A : Around} (r : zbk (k + 1) A) (env : Env) : zbk k (A.deeper env) :=
  ⟨r.hd, by have := r.dp; show A.depth + 1 + 3 * k + 5 < _; omega, by have := r.un; show A.units + 3 + 16 * k + 200 < _; omega⟩
theorem zbk.in1 {k : Nat} {A : Around} (r : zbk (k + 1) A) : zbk k A.in1 :=
  ⟨r.hd, by have := r.dp; show A.depth + 3 * k + 5 < _; omega, by have := r.un; show A.units + 1 + 16 * k + 200 < _; omega⟩
theorem zbk.depth {k : Nat} {A : Around} (r : zbk k A) : A.depth < recursionLimit := by have := r.dp; omega
theorem zbk.units {k : Nat} {A : Around} (r : zbk k A) : A.units + 64 < cLine := by have := r.un; omega
def tNil : TA := fun _ H Q => Q [] H
def tCons (ta : TE) (tr : TA) : TA := fun σ H Q => ta σ H fun x H1 => tr σ H1 fun xs H2 => Q (x :: xs) H2
section
variable {X : Cx} {e : Expr} {es : List Expr} {te : TE} {t : TA} {pos : Pos}
theorem zho : PA X [] tNil := fun _ _ _ _ H Q I h => Calls.spliced_nil ⟨[], H, I, .nil, h⟩
theorem zft (ha : PE X e te) (hr : PA X es t) (hs : starEach (e :: es) X.env = (false, eval e X.env) :: starEach es X.env := by rfl) : PA X (e :: es) (tCons te t) := by
  intro pos pins s σ H Q I h
  rw [hs]
  show wpAny _ _ (spliced ((false, eval e X.env) :: backTo pos (starEach es X.env))) _ _ s
  refine Calls.spliced_cons (thn (ha pins s σ H _ I h) fun u s1 ⟨x, H1, I1, r1, q1⟩ => ?_)
  exact thn (hr pos pins s1 σ H1 _ I1 q1) fun us s2 ⟨xs, H2, I2, r2, q2⟩ => ⟨x :: xs, H2, I2, .cons r1 r2, q2⟩
def tTup (t : TA) : TE := fun σ H Q => t σ H fun xs H1 => xs.length ≤ sizeLine /\ ∀ p, H1 p = none -> Q (.ref p) (upd H1 p (.tup xs))
def tLst (t : TA) : TE := fun σ H Q => t σ H fun xs H1 => xs.length ≤ sizeLine /\ ∀ p, H1 p = none -> Q (.ref p) (upd H1 p (.lst xs))
theorem pe_tup {x1} (h : PA X es t) : PE X (.Tuple es x1 pos) (tTup t) := by
  intro pins s σ H Q I hq
  refine wpAny_Tuple_spliced (thn (h pos pins s σ H _ I hq) fun us s1 ⟨xs, H1, I1, r, z, q⟩ => ⟨by rw [<- r.length]; exact z, ?_⟩)
  have hf : H1 s1.heap.objs.size = none := I1.hok.fresh (Nat.le_refl _)
  refine ⟨.ref s1.heap.objs.size, upd H1 s1.heap.objs.size (.tup xs), I1.laid (t' := s1.toks) (fun b u e => Heap.get?_push_of_some _ e) (Nat.le_refl _) ?_, rfl, q _ hf⟩
  exact ⟨z, us, r, ⟨_, Heap.get?_push_size _ rfl, rfl, _, rfl⟩⟩
theorem pe_lst (h : PA X es t) : PE X (.List es pos) (tLst t) := by
  intro pins s σ H Q I hq
  refine wpAny_List_spliced (thn (h pos pins s σ H _ I hq) fun us s1 ⟨xs, H1, I1, r, z, q⟩ => ⟨by rw [<- r.length]; exact z, ?_⟩)
  have hf : H1 s1.heap.objs.size = none := I1.hok.fresh (Nat.le_refl _)
  refine ⟨.ref s1.heap.objs.size, upd H1 s1.heap.objs.size (.lst xs), I1.laid (t' := s1.toks) (fun b u e => Heap.get?_push_of_some _ e) (Nat.le_refl _) ?_, rfl, q _ hf⟩
  exact ⟨z, us, 0, r, Heap.get?_push_size _ rfl⟩
end
abbrev Sp := List V -> Hp -> VK -> XK -> Prop
abbrev CXT := List Env -> Hp -> Shared -> XK -> Value -> Shared -> Prop
structure zkr (P : Program) (w : World) (K : PySem.W.Frag) (mg : Str -> Option Value) (base : Heap) (A : Around) (outer : List Env) (s : Shared) (H : Hp) : Prop where
  frames : A.frames = some outer
  mod : Mod K mg base
  bs : ∀ b o, base.get? b = some o -> s.heap.get? b = some o /\ H b = none
  bsz : base.objs.size ≤ s.heap.objs.size
  funs : s.heap.FunFrames base outer
  frf : ∀ b ∈ frs outer, H b = none
  hok : HOk P w H s.heap
  bare : AllBare s.gens
def CE (outer : List Env) (P : Program) (w : World) (H : Hp) (s : Shared) (Q : VK) (u : Value) (s' : Shared) : Prop :=
  ∃ v H', s'.os = s.os /\ AllBare s'.gens /\ Un (frs outer) [] H H' s.heap s'.heap /\ HOk P w H' s'.heap /\ RelV v u /\ Q v H'
def CR (CX : CXT) (outer : List Env) (P : Program) (w : World) (H : Hp) (s : Shared) (Q : VK) (E : XK) (r : Result) (s' : Shared) : Prop :=
  match r with
  | .ok (.ret u) => CE outer P w H s Q u s'
  | .ok _ => False
  | .error e => CX outer H s E e s'
structure zg4 (P : Program) (w : World) (K : PySem.W.Frag) (mg : Str -> Option Value) (base : Heap) (CX : CXT) (k : Nat) (f : Addr) (fd : FuncData) (ps : List Str) (sp : Sp) : Prop where
  len : ∀ vs H Q E, sp vs H Q E -> vs.length = ps.length
  run : ∀ (A : Around) (outer : List Env) (s : Shared) (H : Hp) (args : Args) (us : List Value) (vs : List V) (Q : VK) (E : XK), zbk k A -> zkr P w K mg base A outer s H -> BindsTo s fd args (ps.zip us) -> Vals vs us -> sp vs H Q E ->
    codeAny (model P w) A (.call (.ref f) args) (CR CX outer P w H s Q E) s
theorem zg4.mono {P : Program} {w : World} {K : PySem.W.Frag} {mg : Str -> Option Value} {base : Heap} {CX : CXT} {j k : Nat} {f : Addr} {fd : FuncData} {ps : List Str} {sp : Sp} (F : zg4 P w K mg base CX j f fd ps sp) (h : j ≤ k) :
    zg4 P w K mg base CX k f fd ps sp := ⟨F.len, fun A outer s H args us vs Q E hr => F.run A outer s H args us vs Q E (hr.mono h)⟩
theorem zkr.in1 {P : Program} {w : World} {K : PySem.W.Frag} {mg : Str -> Option Value} {base : Heap} {A : Around} {outer : List Env} {s : Shared} {H : Hp} (e : zkr P w K mg base A outer s H) :
    zkr P w K mg base A.in1 outer s H := ⟨e.frames, e.mod, e.bs, e.bsz, e.funs, e.frf, e.hok, e.bare⟩
section
variable {X : Cx} {pins : List (Addr × Obj)} {σ : St} {H : Hp} {s s' : Shared}
theorem Inv.env0 (I : Inv X pins σ H s) : zkr X.prog X.w X.K X.mg X.base X.A X.stack s H :=
  ⟨I.ok.frames, I.ok.mod, I.bs, Nat.le_trans I.ok.bsz I.sz, I.stack, I.stkFree, I.hok, I.bare⟩
theorem Inv.after {Q : VK} {u : Value} (I : Inv X pins σ H s) (h : CE X.stack X.prog X.w H s Q u s') : EP X pins σ Q u s' := by
  obtain ⟨v, H', os, bare, un, hok, r, q⟩ := h
  obtain ⟨hh, g, d, t, os'⟩ := s'
  obtain rfl : os' = s.os := os
  exact ⟨v, H', I.call (h' := hh) (g' := g) (d' := d) (t' := t) (ch := []) un hok bare (fun b z => absurd z (by simp)), r, q⟩
end
def tCall (sp : Sp) (dvs : List V) (E : XK) (t : TA) : TE := fun σ H Q => t σ H fun vs H1 => sp (vs ++ dvs) H1 Q E
def Binds (K : PySem.W.Frag) (fd : FuncData) (ps : List Str) (ds : List Value) : Prop :=
  ∀ (s : Shared) (us : List Value), K.In s.heap -> (us ++ ds).length = ps.length -> BindsTo s fd ⟨us, []⟩ (ps.zip (us ++ ds))
theorem Binds.all {K : PySem.W.Frag} {fd : FuncData} {ps : List Str} (h : ∀ us : List Value, us.length = ps.length -> bindArgs fd ⟨us, []⟩ = pure (ps.zip us)) : Binds K fd ps [] := fun s us _ hl => by
  rw [List.append_nil] at hl ⊢
  exact .of_eq (h us hl)
def Passes (CX : CXT) (X : Cx) (E : XK) : Prop := ∀ (pins : List (Addr × Obj)) (σ : St) (H : Hp) (s : Shared) (e : Value) (s' : Shared), Inv X pins σ H s -> CX X.stack H s E e s' -> X.xe e s'
section
variable {X : Cx} {CX : CXT} {k : Nat} {f C : Addr} {fd : FuncData} {ps : List Str} {sp : Sp} {dvs : List V} {ds : List Value} {E : XK} {x m : Str} {p pos apos : Pos} {e o : Expr} {es : List Expr} {ta : TE} {t : TA}
theorem zst {pins : List (Addr × Obj)} {σ : St} {H : Hp} {s : Shared} {Q : VK} {us : List Value} {vs : List V} (F : zg4 X.prog X.w X.K X.mg X.base CX k f fd ps sp) (hr : zbk k X.A) (hb : Binds X.K fd ps ds) (hd : Vals dvs ds) (hx : Passes CX X E)
    (I : Inv X pins σ H s) (r : Vals vs us) (h : sp (vs ++ dvs) H Q E) : wpAny (model X.prog X.w) X.A (call (.ref f) us) (EP X pins σ Q) X.xe s := by
  have r2 : Vals (vs ++ dvs) (us ++ ds) := r.append hd
  have hl : (us ++ ds).length = ps.length := by rw [<- r2.length]; exact F.len _ _ _ _ h
  refine wpAny_call (codeAny_mono (F.run X.A X.stack s H ⟨us, []⟩ (us ++ ds) (vs ++ dvs) Q E hr I.env0 (hb s us I.kIn hl) r2 h) fun r s' hq => ?_)
  cases r with
  | error e => exact hx pins σ H s e s' I hq
  | ok fl =>
    cases fl with
    | ret u => exact I.after hq
    | next => exact False.elim hq
    | brk => exact False.elim hq
    | cont => exact False.elim hq
theorem zxy (F : zg4 X.prog X.w X.K X.mg X.base CX k f fd ps sp) (hr : zbk k X.A) (hg : Gl X x) (hm : X.mg x = some (.ref f)) (hk : PySem.W.keepIn X.K (.ref f) = true) (hb : Binds X.K fd ps ds) (hd : Vals dvs ds) (hx : Passes CX X E)
    (ha : PA X (e :: es) t) (hdb : (x == ("__debug__" : Str)) = false := by decide) (he : starEach (e :: es) X.env = (false, eval e X.env) :: starEach es X.env := by rfl) (hpl : (backTo pos (starEach es X.env)).any (·.1) = false := by rfl) :
    PE X (.Call (.Name x p) (e :: es) [] pos) (tCall sp dvs E t) := by
  intro pins s σ H Q I h
  refine wpAny_Call_Name_kw (zqr I hg hm ?_ hdb)
  refine PySem.W.callWith_K (h₀ := X.base) I.ok.mod.kin hk (thn (ha pos pins s σ H _ I h) fun us s1 ⟨vs, H1, I1, r, q⟩ => ⟨I1.kIn, ?_⟩) he hpl
  exact zst F hr hb hd hx I1 r q
end
section
variable {X : Cx} {CX : CXT} {k : Nat} {f C : Addr} {fd : FuncData} {ps ks : List Str} {sp : Sp} {E : XK} {x m : Str} {p pos apos kpos : Pos} {e o : Expr} {es : List Expr} {kws : List Keyword} {te ta : TE} {t tk : TA} {nm : Option Str}
variable {g : List Value -> List Value -> List Value} {gV : List V -> List V -> List V}
end
structure zbj (N P : List Str) (sc : Scope) : Prop where
  kind : sc.kind = .function
  co : sc.isCoroutine = false
  gen : sc.isGenerator = false
  nd : N.Nodup
  pre : N.take P.length = P
  par : ∀ x ∈ P, sc.names.lookup x = some .local \/ sc.names.lookup x = some .cell
  nofree : ∀ y ∈ sc.names, y.2 ≠ .free
theorem znb {kindOf : Str -> Option NameKind} {x : Str} : ∀ {binds : List (Str × Value)} {m : Str -> Option Value}, (∀ v, (x, v) ∉ binds) -> bindL kindOf binds m x = m x
  | [], _, _ => rfl
  | (n, v) :: r, m, h => by
    unfold bindL
    rw [znb fun w hw => h w (List.mem_cons_of_mem _ hw)]
    split
    · have : x ≠ n := by rintro rfl; exact h v List.mem_cons_self
      simp [this]
    · rfl
theorem znd {kindOf : Str -> Option NameKind} {x : Str} : ∀ {binds : List (Str × Value)} {m : Str -> Option Value}, (∀ v, (x, v) ∉ binds) -> bindC kindOf binds m x = m x
  | [], _, _ => rfl
  | (n, v) :: r, m, h => by
    unfold bindC
    rw [znd fun w hw => h w (List.mem_cons_of_mem _ hw)]
    split
    · rfl
    · have : x ≠ n := by rintro rfl; exact h v List.mem_cons_self
      simp [this]
theorem znc {kindOf : Str -> Option NameKind} {x : Str} {v : Value} : ∀ {P : List Str} {vs : List Value} {i : Nat} {m : Str -> Option Value}, P.Nodup -> P[i]? = some x -> vs[i]? = some v -> kindOf x = some .local ->
    bindL kindOf (P.zip vs) m x = some v
  | [], _, _, _, _, h, _, _ => by simp at h
  | _ :: _, [], _, _, _, _, h, _ => by simp at h
  | p :: P, w :: vs, 0, m, nd, h1, h2, hk => by
    simp at h1 h2; subst h1; subst h2
    show bindL kindOf ((p, w) :: P.zip vs) m p = _
    unfold bindL
    rw [znb fun v hv => (List.nodup_cons.mp nd).1 (List.of_mem_zip hv).1, if_pos hk]
    simp
  | p :: P, w :: vs, i + 1, m, nd, h1, h2, hk => by
    show bindL kindOf ((p, w) :: P.zip vs) m x = _
    unfold bindL
    exact znc (i := i) (List.nodup_cons.mp nd).2 (by simpa using h1) (by simpa using h2) hk
theorem zne {kindOf : Str -> Option NameKind} {x : Str} {v : Value} : ∀ {P : List Str} {vs : List Value} {i : Nat} {m : Str -> Option Value}, P.Nodup -> P[i]? = some x -> vs[i]? = some v -> kindOf x ≠ some .local ->
    bindC kindOf (P.zip vs) m x = some v
  | [], _, _, _, _, h, _, _ => by simp at h
  | _ :: _, [], _, _, _, _, h, _ => by simp at h
  | p :: P, w :: vs, 0, m, nd, h1, h2, hk => by
    simp at h1 h2; subst h1; subst h2
    show bindC kindOf ((p, w) :: P.zip vs) m p = _
    unfold bindC
    rw [znd fun v hv => (List.nodup_cons.mp nd).1 (List.of_mem_zip hv).1, if_neg hk]
    simp
  | p :: P, w :: vs, i + 1, m, nd, h1, h2, hk => by
    show bindC kindOf ((p, w) :: P.zip vs) m x = _
    unfold bindC
    exact zne (i := i) (List.nodup_cons.mp nd).2 (by simpa using h1) (by simpa using h2) hk
def start (N : List Str) (vs : List V) : St := vs.map some ++ List.replicate (N.length - vs.length) none
def zca (CX : CXT) (P : Program) (w : World) (K : PySem.W.Frag) (mg : Str -> Option Value) (base : Heap) (N : List Str) (qual : Str) (scope : Scope) (f : Addr) (cd : Value) (A : Around) (outer : List Env) (s : Shared) (H : Hp) (E : XK) : Cx where
  prog := P
  w := w
  K := K
  mg := mg
  base := base
  A := A.deeper (envOfC qual scope s.heap.objs.size f cd)
  N := N
  s₀ := s
  H₀ := H
  env := envOfC qual scope s.heap.objs.size f cd
  outer := outer
  stack := envOfC qual scope s.heap.objs.size f cd :: outer
  ex := []
  calm := true
  fn := fun _ => true
  pn := []
  xe := fun e s' => wpAny (model P w) (A.deeper (envOfC qual scope s.heap.objs.size f cd)) (leaving (envOfC qual scope s.heap.objs.size f cd) e) (fun _ s'' => CX outer H s E e s'') (fun e' s'' => CX outer H s E e' s'') s'
theorem zpp {sc : Scope} {n : Nat} {x : Str} (h : sc.names.lookup x = some .cell) : ∃ c, (cellsFrom n sc.names []).lookup x = some c := by
  have q := PySem.W.cellsFrom_some sc.names n [] (.inl h)
  exact Option.isSome_iff_exists.mp q
theorem ztq {CX : CXT} {P : Program} {w : World} {K : PySem.W.Frag} {mg : Str -> Option Value} {base : Heap} {N ps : List Str} {qual : Str} {scope : Scope} {f : Addr} {cd : Value} {A : Around} {outer : List Env} {s s1 : Shared} {H : Hp} {E : XK} {us : List Value} {vs : List V}
    (S : zbj N ps scope) (hd : A.handled = none) (e0 : zkr P w K mg base A outer s H) (hl : vs.length = ps.length) (r : Vals vs us)
    (x : InCallC s s.heap.objs.size (bindL (envOfC qual scope s.heap.objs.size f cd).kindOf (ps.zip us) fun _ => none) (cellsFrom (s.heap.objs.size + 1) scope.names []) (bindC (envOfC qual scope s.heap.objs.size f cd).kindOf (ps.zip us) fun _ => none) s1) :
    Inv (zca CX P w K mg base N qual scope f cd A outer s H E) [] (start N vs) H s1 := by
  have hpl : ps.length ≤ N.length := by have := congrArg List.length S.pre; rw [List.length_take] at this; omega
  obtain ⟨h1, tk, rfl, hk⟩ := x.done
  have noA : ∀ b : Addr, b ∉ (zca CX P w K mg base N qual scope f cd A outer s H E).ex := fun b z => absurd (show b ∈ ([] : List Addr) from z) (by simp)
  refine ⟨⟨e0.mod, S.kind, rfl, rfl, Nat.le_refl _, fun y z c h1 h2 => ?_, fun y hy => ?_, fun y c _ h => ?_, fun _ => hd, Around.frames_deeper e0.frames, .inr ⟨rfl, rfl⟩, fun b z => absurd z (noA b), e0.bs, e0.bsz, fun b _ _ => noA b, fun b z => absurd z (noA b), e0.funs, e0.frf⟩,
    rfl, e0.bare, Un.kept hk, ⟨_, x.toInCall.ns, fun i y v h1 h2 h3 => ?_⟩, fun y c h => ⟨_, x.cell y c h⟩, e0.hok.fresh (Nat.le_refl _), fun y c h => ?_, fun p hp => absurd (show p ∈ ([] : List (Addr × Obj)) from hp) (by simp), e0.hok.kept hk, ?_⟩
  · exact name_of_addr x.apart (PySem.mem_of_lookup h1) (PySem.mem_of_lookup h2)
  · have hy : scope.names.lookup y = some .cell \/ scope.names.lookup y = some .free := hy
    rcases hy with hy | hy
    · exact zpp hy
    · exact absurd rfl (S.nofree _ (PySem.mem_of_lookup hy))
  · exact Nat.le_of_lt (x.above y c (PySem.mem_of_lookup h))
  · have hi : i < vs.length := by
      unfold start at h2
      by_cases hi : i < vs.length
      · exact hi
      · rw [List.getElem?_append_right (by simpa using hi)] at h2
        rw [List.getElem?_replicate] at h2
        split at h2 <;> cases h2
    have ha : vs[i]? = some v := by
      unfold start at h2
      rw [List.getElem?_append_left (by simpa using hi), List.getElem?_map] at h2
      cases e : vs[i]? with
      | none => rw [e] at h2; cases h2
      | some a => rw [e] at h2; cases h2; rfl
    obtain ⟨u, hu, rv⟩ := r.get ha
    have hp : ps[i]? = some y := by
      rw [<- S.pre, List.getElem?_take_of_lt (by omega)]; exact h1
    have ndP : ps.Nodup := by rw [<- S.pre]; exact S.nd.sublist (List.take_sublist _ _)
    refine ⟨u, rv, ?_⟩
    rcases S.par y (List.mem_of_getElem? hp) with k | k
    · exact .inl ⟨k, znc ndP hp hu k⟩
    · obtain ⟨c, e⟩ := zpp (n := s.heap.objs.size + 1) k
      refine .inr ⟨.inl k, c, e, ?_⟩
      have q := x.cell y c e
      rw [zne ndP hp hu (by show scope.names.lookup y ≠ _; rw [k]; decide)] at q
      exact q
  · exact e0.hok.fresh (Nat.le_of_lt (x.above y c (PySem.mem_of_lookup h)))
  · unfold start
    show _ = N.length
    rw [List.length_append, List.length_map, List.length_replicate]
    omega
theorem fn_of {CX : CXT} {P : Program} {w : World} {K : PySem.W.Frag} {mg : Str -> Option Value} {base : Heap} {k : Nat} {f : Addr} {name qual : Str} {params : Arguments} {body : List Stmt} {scope : Scope} {dV kV doc pm cdv ct oc : Value} {an od : Option Addr}
    {osl : Array (Option Value)} {N ps : List Str} {sp : Sp} (lk : K.lookup f = some ⟨oc, od, .func (PySem.W.fnOf name qual params body scope dV kV doc pm an cdv ct), osl⟩) (hcd : PySem.W.codeIn K cdv qual = true) (S : zbj N ps scope)
    (len : ∀ vs H Q E, sp vs H Q E -> vs.length = ps.length)
    (hbody : ∀ (A : Around) (outer : List Env) (s : Shared) (H : Hp) (vs : List V) (Q : VK) (E : XK), zbk k (A.deeper (envOfC qual scope s.heap.objs.size f cdv)) -> sp vs H Q E ->
      ∃ t, PSs (zca CX P w K mg base N qual scope f cdv A outer s H E) body t /\ t { nx := fun _ H' => Q .non H', rt := Q } (start N vs) H) :
    zg4 P w K mg base CX (k + 1) f (PySem.W.fnOf name qual params body scope dV kV doc pm an cdv ct) ps sp := by
  refine ⟨len, fun A outer s H args us vs Q E hr e0 hb r hsp => ?_⟩
  have hl := len _ _ _ _ hsp
  have KX : K.In s.heap := e0.mod.kin.keeps fun b o e => (e0.bs b o e).1
  have lim : s.heap.NoLimit := e0.mod.nolimit.keeps fun b o e => (e0.bs b o e).1
  have hkind : ∀ y ∈ ps.zip us, scope.names.lookup y.1 = some .local \/ (scope.names.lookup y.1 = some .cell /\ ((cellsFrom (s.heap.objs.size + 1) scope.names []).lookup y.1).isSome = true) := fun ⟨n, v⟩ hy => by
    rcases S.par n (List.of_mem_zip hy).1 with q | q
    · exact .inl q
    · exact .inr ⟨q, PySem.W.cellsFrom_some _ _ _ (.inl q)⟩
  refine codeAny_call_function hr.depth (KX _ _ lk) rfl S.co S.gen rfl (PySem.W.codeRec_of KX hcd) (hb _ _ _ _ ?_)
  refine wpAny_newFunctionEnv_cells S.kind hkind fun env he s1 x => ?_
  subst he
  refine ⟨lim.keeps x.toInCall.keep, codeAny_func ?_⟩
  obtain ⟨t, ht, hq⟩ := hbody A outer s H vs Q E (hr.deeper _) hsp
  have I : Inv (zca CX P w K mg base N qual scope f cdv A outer s H E) [] (start N vs) H s1 := ztq S hr.hd e0 hl r x
  refine wpAny_mono (ht [] s1 (start N vs) H _ I hq) (fun fl s' hs => ?_) fun e s' hs => hs
  have fin : ∀ {σ' : St} {H' : Hp} {v : V} {u : Value}, Inv (zca CX P w K mg base N qual scope f cdv A outer s H E) [] σ' H' s' -> RelV v u -> Q v H' -> CE outer P w H s Q u s' :=
    fun {σ' H' v u} J rv q => ⟨v, H', J.os, J.bare, J.base, J.hok, rv, q⟩
  cases fl with
  | ret u =>
    obtain ⟨v, σ', H', J, rv, q⟩ := hs
    exact fin J rv q
  | next =>
    obtain ⟨σ', H', J, q⟩ := hs
    exact fin (v := V.non) (u := Value.none) J rfl q
  | brk =>
    obtain ⟨_, _, _, q⟩ := hs
    exact False.elim q
  | cont =>
    obtain ⟨_, _, _, q⟩ := hs
    exact False.elim q
end L2
namespace L2
open PySem PySem.Spec PyProof.Rows
section
variable {X : Cx} {x : Str} {p pos : Pos} {e : Expr} {es : List Expr} {t : TA} {id T : String} {r : List V -> Hp -> VK -> Prop}
def tCB (r : List V -> Hp -> VK -> Prop) (t : TA) : TE := fun σ H Q => t σ H fun vs H1 => r vs H1 Q
theorem zoz (hc : zdl X (.builtin id) r) (hg : Gl X x) (hm : X.mg x = none) (hv : bootBuiltins x = some (.builtin id)) (ha : PA X (e :: es) t) (hn : x ≠ "__name__" := by decide) (hdb : (x == ("__debug__" : Str)) = false := by decide)
    (he : starEach (e :: es) X.env = (false, eval e X.env) :: starEach es X.env := by rfl) (hpl : (backTo pos (starEach es X.env)).any (·.1) = false := by rfl) : PE X (.Call (.Name x p) (e :: es) [] pos) (tCB r t) := by
  intro pins s σ H Q I h
  refine wpAny_Call_Name_kw (zgy I hg hm hv ?_ hn hdb)
  exact PyProof.Rows.callWith_builtin1 (thn (ha pos pins s σ H _ I h) fun us s1 ⟨vs, H1, I1, r1, q1⟩ => hc pins s1 σ H1 vs us Q I1 r1 q1) he hpl
theorem zs3 (hc : zdl X (.type T) r) (hg : Gl X x) (hm : X.mg x = none) (hv : bootBuiltins x = some (.type T)) (ha : PA X (e :: es) t) (hn : x ≠ "__name__" := by decide) (hdb : (x == ("__debug__" : Str)) = false := by decide)
    (he : starEach (e :: es) X.env = (false, eval e X.env) :: starEach es X.env := by rfl) (hpl : (backTo pos (starEach es X.env)).any (·.1) = false := by rfl) : PE X (.Call (.Name x p) (e :: es) [] pos) (tCB r t) := by
  intro pins s σ H Q I h
  refine wpAny_Call_Name_kw (zgy I hg hm hv ?_ hn hdb)
  exact PyProof.Rows.callWith_type1 (thn (ha pos pins s σ H _ I h) fun us s1 ⟨vs, H1, I1, r1, q1⟩ => hc pins s1 σ H1 vs us Q I1 r1 q1) he hpl
end
end L2
namespace HT
open PySem PyProof.Rows
section
open PySem.SeqAt
open PySem.AutoSeq1 (wpAny_loadPart')
open PySem.MeetsSeq PySem.MeetsSeq2 PySem.MeetsSeq3
end
section
variable {prog : Program} {w : World} {A : Around} {E : Value -> Shared -> Prop} {s : Shared}
theorem zyv {t b : Addr} {vs ws : List Value} {Q : Value -> Shared -> Prop} (ht : IsTup s.heap t vs.toArray) (hb : IsTup s.heap b ws.toArray) (hv : vs ≠ [])
    (h1 : ws = [] -> Q (.ref t) s) (h2 : ws ≠ [] -> Q (.ref s.heap.objs.size) { s with heap := s.heap.push { cls := .type "tuple", data := .seq (vs ++ ws).toArray } })
    (hsz : vs.length + ws.length ≤ sizeLine) : wpAny (model prog w) A (binaryOp .Add (.ref t) (.ref b)) Q E s := by
  obtain ⟨⟨cls, dd, data, sl⟩, ho, hc, n, hd⟩ := id ht
  obtain ⟨⟨cls2, dd2, data2, sl2⟩, ho2, hc2, n2, hd2⟩ := id hb
  simp only at hc hd hc2 hd2
  subst hc hd hc2 hd2
  have e : vs.toArray ++ ws.toArray = (vs ++ ws).toArray := by simp
  by_cases hw : ws = []
  · exact concat_meets ⟨_, ho, rfl⟩ ⟨_, ho2, rfl⟩ noFill_tuple_add seq_tuple_add PySem.F.slot_tuple_add PySem.F.entry_tuple_add (PySem.F.args_tuple_add_2 _ _)
      (tuple_addW1 t b vs.toArray ws.toArray n n2 dd dd2 sl sl2 (by simpa using hv) (by simp [hw])) ⟨ho, ho2, h1 hw⟩
  · refine concat_meets ⟨_, ho, rfl⟩ ⟨_, ho2, rfl⟩ noFill_tuple_add seq_tuple_add PySem.F.slot_tuple_add PySem.F.entry_tuple_add (PySem.F.args_tuple_add_2 _ _)
      (tuple_addW2 t b vs.toArray ws.toArray n n2 dd dd2 sl sl2 (by simpa using hv) (by simpa using hw) (by rw [List.size_toArray, List.size_toArray]; exact hsz)) ⟨ho, ho2, ?_⟩
    rw [e]
    exact h2 hw
def sIx (n d : Nat) : Option Int -> Nat
  | none => d
  | some v => if v < 0 then (v + (n : Int)).toNat else min v.toNat n
theorem sIx_le (n d : Nat) (hd : d ≤ n) (o : Option Int) : sIx n d o ≤ n := by
  cases o with
  | none => exact hd
  | some v =>
    show (if v < 0 then (v + (n : Int)).toNat else min v.toNat n) ≤ n
    by_cases hv : v < 0
    · rw [if_pos hv]; omega
    · rw [if_neg hv]; exact Nat.min_le_right _ _
theorem zqx (v : Int) (n d : Nat) : (if v < 0 then max (v + (n : Int)) 0 else min v (n : Int)) = ((sIx n d (some v) : Nat) : Int) := by
  show (if v < 0 then max (v + (n : Int)) 0 else min v (n : Int)) = (((if v < 0 then (v + (n : Int)).toNat else min v.toNat n) : Nat) : Int)
  by_cases hv : v < 0
  · simp only [if_pos hv]; omega
  · simp only [if_neg hv]; omega
theorem zr2 (lo hi : Option Int) (n : Nat) : Builtin.Slice.sliceAdjust lo hi 1 (n : Int) = (((sIx n 0 lo : Nat) : Int), ((sIx n n hi : Nat) : Int)) := by
  have h1 : ¬ ((1 : Int) < 0) := by omega
  unfold Builtin.Slice.sliceAdjust
  simp only [h1, if_false]
  refine Prod.ext ?_ ?_
  · cases lo with
    | none => rfl
    | some v => exact zqx v n 0
  · cases hi with
    | none => rfl
    | some v => exact zqx v n n
theorem zrc (i j : Nat) : Builtin.Slice.slicePlaces (i : Int) (j : Int) 1 = j - i := by
  unfold Builtin.Slice.slicePlaces
  have h1 : (1 : Int) > 0 := by omega
  simp only [h1, if_true, Int.ediv_one]
  split <;> omega
theorem zky {v : Value} {o : Option Int} {Q : Option Int -> Shared -> Prop} (p : IsPart v o) (h : Q o s) : wpAny (model prog w) A (Builtin.Slice.slicePartIndex v) Q E s := by
  cases p with
  | none => exact slicePart_none h
  | int i t => exact slicePart_int h
theorem zhk {sl : Addr} {vl vu : Value} {lo hi : Option Int} {n : Nat} {Q : Int × Int × Nat -> Shared -> Prop} (hs : s.heap.IsSliceOf sl vl vu .none) (pl : IsPart vl lo) (pu : IsPart vu hi)
    (h : Q (((sIx n 0 lo : Nat) : Int), 1, sIx n n hi - sIx n 0 lo) s) : wpAny (model prog w) A (Builtin.Slice.sliceApplied (.ref sl) (pure (n : Int))) Q E s := by
  obtain ⟨os, hos, hcs, hds⟩ := id hs
  unfold Builtin.Slice.sliceApplied Builtin.Slice.sliceFields
  refine wpAny_bind (wpAny_bind (wpAny_field hos hds (x := vl) rfl (wpAny_bind (wpAny_field hos hds (x := vu) rfl (wpAny_bind (wpAny_field hos hds (x := .none) rfl (wpAny_pure ?_)))))))
  refine wpAny_bind (slicePart_none ?_)
  show wpAny _ _ (if ((1 : Int) == 0) = true then _ else _) _ _ s
  rw [if_neg (by decide)]
  refine wpAny_bind (zky pl (wpAny_bind (zky pu (wpAny_bind (wpAny_pure ?_)))))
  show wpAny _ _ (match Builtin.Slice.sliceAdjust lo hi 1 (n : Int) with | (lo, hi) => pure (lo, (1 : Int), Builtin.Slice.slicePlaces lo hi 1)) _ _ s
  rw [zr2 lo hi n]
  show wpAny _ _ (pure (((sIx n 0 lo : Nat) : Int), (1 : Int), Builtin.Slice.slicePlaces ((sIx n 0 lo : Nat) : Int) ((sIx n n hi : Nat) : Int) 1)) _ _ s
  rw [zrc]
  exact wpAny_pure h
theorem zu6 (xs : Array Value) (i k : Nat) : ((List.range k).filterMap fun (m : Nat) => xs[((i : Int) + (m : Int) * 1).toNat]?).toArray = ((xs.toList.drop i).take k).toArray := by
  have e : (fun (m : Nat) => xs[((i : Int) + (m : Int) * 1).toNat]?) = fun m => xs[i + m]? := by
    funext m
    have : ((i : Int) + (m : Int) * 1).toNat = i + m := by omega
    rw [this]
  rw [e]
  have := pick_run xs i k
  rw [List.filterMap_map] at this
  have e2 : ((fun x => xs[x]?) ∘ fun x => i + x) = fun m => xs[i + m]? := rfl
  rw [e2] at this
  rw [this]
theorem zj9 {t sl : Addr} {items : Array Value} {vl vu : Value} {lo hi : Option Int} {Q : Value -> Shared -> Prop} (ht : IsTup s.heap t items) (hs : s.heap.IsSliceOf sl vl vu .none) (pl : IsPart vl lo) (pu : IsPart vu hi)
    (hw : ¬ (sIx items.size 0 lo = 0 /\ sIx items.size items.size hi = items.size))
    (h : Q (.ref s.heap.objs.size) { s with heap := s.heap.push { cls := .type "tuple", data := .seq ((items.toList.drop (sIx items.size 0 lo)).take (sIx items.size items.size hi - sIx items.size 0 lo)).toArray } })
    (hsz : items.size ≤ sizeLine) : wpAny (model prog w) A (getItem (.ref t) (.ref sl)) Q E s := by
  have htake : sizeOk (.seq ((items.toList.drop (sIx items.size 0 lo)).take (sIx items.size items.size hi - sIx items.size 0 lo)).toArray) := by
    show ((items.toList.drop (sIx items.size 0 lo)).take (sIx items.size items.size hi - sIx items.size 0 lo)).toArray.size ≤ sizeLine
    rw [List.size_toArray, List.length_take, List.length_drop, Array.length_toList]
    omega
  have hj : sIx items.size items.size hi ≤ items.size := sIx_le _ _ (Nat.le_refl _) hi
  obtain ⟨os, hos, hcs, hds⟩ := id hs
  have hTs : s.TypeIs (.ref sl) "slice" := ⟨os, hos, hcs⟩
  unfold getItem
  try with_reducible refine wpAny_holding ?_
  first | refine wpAny_bind (wpAny_pure ?_) | skip
  refine wpAny_bind (wpAny_sequenceKey ht.typeIs (by decide) ?_)
  refine wpAny_bind (wpAny_callSpecial?_slot (name := Str.ofString "__getitem__") ht.typeIs PyProof.Rows.slot_tuple_getitem
    (wpAny_call_entry PyProof.Rows.slot_tuple_getitem ht.typeIs entry_tuple_getitem ?_ (args_tuple_getitem _ _)))
  show wpAny _ _ (Builtin.Tuple.tupleItemsOf (.ref t) >>= _) _ _ s
  refine wpAny_bind (tupleItemsOf_ ht ?_)
  refine wpAny_bind (wpAny_typeOf hTs ?_)
  rw [if_pos (by decide)]
  refine wpAny_bind (zhk hs pl pu ?_)
  have hno : ¬ ((((sIx items.size 0 lo : Nat) : Int) == 0 && (1 : Int) == 1 && (sIx items.size items.size hi - sIx items.size 0 lo) == items.size) = true) := by
    intro q
    rw [Bool.and_eq_true, Bool.and_eq_true] at q
    have q1 : ((sIx items.size 0 lo : Nat) : Int) = 0 := eq_of_beq q.1.1
    have q2 : sIx items.size items.size hi - sIx items.size 0 lo = items.size := eq_of_beq q.2
    exact hw ⟨by omega, by omega⟩
  show wpAny _ _ (if (((sIx items.size 0 lo : Nat) : Int) == 0 && (1 : Int) == 1 && (sIx items.size items.size hi - sIx items.size 0 lo) == items.size) = true then _ else _) _ _ s
  rw [if_neg hno, zu6]
  first
    | exact wpAny_bind (m := Builtin.Tuple.tupleExact _) (wpAny_newObj_type (wpAny_pure ⟨_, rfl, wpAny_pure h⟩) htake)
    | exact wpAny_bind (m := Builtin.Tuple.tupleExact _) (wpAny_newObj_type (wpAny_bind (wpAny_pure (wpAny_pure ⟨_, rfl, wpAny_pure h⟩))) htake)
    | exact wpAny_bind (wpAny_bind (m := Builtin.Tuple.tupleExact _) (wpAny_newObj_type (wpAny_pure (wpAny_pure ⟨_, rfl, wpAny_pure h⟩)) htake))
    | exact wpAny_bind (wpAny_bind (m := Builtin.Tuple.tupleExact _) (wpAny_newObj_type (wpAny_pure ⟨_, rfl, wpAny_pure h⟩) htake))
end
end HT
namespace L2
open PySem PySem.Spec PyProof.Rows
abbrev TO := St -> Hp -> (Option Int -> Hp -> Prop) -> Prop
def PO (X : Cx) (e : Option Expr) (t : TO) : Prop :=
  ∀ (pins : List (Addr × Obj)) (s : Shared) (σ : St) (H : Hp) (Q : Option Int -> Hp -> Prop), Inv X pins σ H s -> t σ H Q ->
    wpAny (model X.prog X.w) X.A (evalPart e X.env) (fun u s' => ∃ o H', Inv X pins σ H' s' /\ IsPart u o /\ Q o H') X.xe s
def zw2 : TO := fun _ H Q => Q none H
def tPart (t : TE) : TO := fun σ H Q => t σ H fun x H1 => ∃ i, x = .int i /\ Q (some i) H1
section
variable {X : Cx} {e : Expr} {te : TE} {lo hi : Option Expr} {tl th : TO} {pos p2 : Pos}
theorem zxu : PO X none zw2 := by
  intro pins s σ H Q I h
  rw [evalPart_none]
  exact wpAny_pure ⟨none, H, I, .none, h⟩
theorem zxt (h : PE X e te) : PO X (some e) (tPart te) := by
  intro pins s σ H Q I hw
  rw [evalPart_some]
  refine thn (h pins s σ H _ I hw) fun u s1 ⟨x, H1, I1, r1, q1⟩ => ?_
  obtain ⟨i, rfl, q⟩ := q1
  obtain ⟨t, rfl⟩ := r1
  exact ⟨some i, H1, I1, .int i t, q⟩
def SlR (X : Cx) (r : V -> Option Int -> Option Int -> Hp -> VK -> Prop) : Prop :=
  ∀ (pins : List (Addr × Obj)) (s : Shared) (σ : St) (H : Hp) (x : V) (v vl vu : Value) (lo hi : Option Int) (sl : Addr) (Q : VK), Inv X pins σ H s -> RelV x v -> s.heap.IsSliceOf sl vl vu .none -> IsPart vl lo -> IsPart vu hi -> r x lo hi H Q ->
    ∃ T id, typeLookup (.type T) "__getitem__" = pure (some (.builtin id)) /\ s.TypeIs v T /\ wpAny (model X.prog X.w) X.A (getItem v (.ref sl)) (EP X pins σ Q) X.xe s
theorem SlR.or {r r' : V -> Option Int -> Option Int -> Hp -> VK -> Prop} (h : SlR X r) (h' : SlR X r') : SlR X (fun x lo hi H Q => r x lo hi H Q \/ r' x lo hi H Q) := by
  intro pins s σ H x v vl vu lo hi sl Q I rx hs pl pu q
  rcases q with q | q
  · exact h pins s σ H x v vl vu lo hi sl Q I rx hs pl pu q
  · exact h' pins s σ H x v vl vu lo hi sl Q I rx hs pl pu q
def tSl (r : V -> Option Int -> Option Int -> Hp -> VK -> Prop) (te : TE) (tl th : TO) : TE := fun σ H Q => te σ H fun x H1 => tl σ H1 fun l H2 => th σ H2 fun u H3 => r x l u H3 Q
theorem zoy {r : V -> Option Int -> Option Int -> Hp -> VK -> Prop} (hr : SlR X r) (he : PE X e te) (hl : PO X lo tl) (hu : PO X hi th) : PE X (.Subscript e (.Slice lo hi none p2) pos) (tSl r te tl th) := by
  intro pins s σ H Q I h
  refine Subscript_ (thn (he pins s σ H _ I h) fun v s1 ⟨x, H1, I1, r1, q1⟩ => ?_)
  refine wpAny_Slice (thn (hl pins s1 σ H1 _ I1 q1) fun vl s2 ⟨l, H2, I2, pl, q2⟩ => thn (hu pins s2 σ H2 _ I2 q2) fun vu s3 ⟨u, H3, I3, pu, q3⟩ => ?_)
  rw [evalPart_none]
  refine wpAny_pure ?_
  have I4 : Inv X pins σ H3 { s3 with heap := s3.heap.push { cls := .type "slice", data := .fields #[vl, vu, .none] } } := I3.kept (t' := s3.toks) fun b ob q => Heap.get?_push_of_some _ q
  obtain ⟨T, id, hT, ht, hg⟩ := hr pins { s3 with heap := s3.heap.push { cls := .type "slice", data := .fields #[vl, vu, .none] } } σ H3 x v vl vu l u s3.heap.objs.size Q I4 r1 (Heap.IsSliceOf.new ..) pl pu q3
  show wpAny (model X.prog X.w) X.A (subscriptTail e (.Slice lo hi none p2) v (.ref s3.heap.objs.size)) (EP X pins σ Q) X.xe { s3 with heap := s3.heap.push { cls := .type "slice", data := .fields #[vl, vu, .none] } }
  exact tail_any (ops := [.ref s3.heap.objs.size, v]) ht hT hg (by with_unfolding_all rfl)
def zjl (xs : List V) (lo hi : Option Int) : List V := (xs.drop (HT.sIx xs.length 0 lo)).take (HT.sIx xs.length xs.length hi - HT.sIx xs.length 0 lo)
theorem zka (xs : List V) (lo hi : Option Int) : (zjl xs lo hi).length ≤ xs.length := by
  unfold zjl
  rw [List.length_take, List.length_drop]
  omega
def rSlT (K : PySem.W.Frag) : V -> Option Int -> Option Int -> Hp -> VK -> Prop := fun x lo hi H Q => ∃ a xs, x = .ref a /\ SqT K H a xs /\
  ¬ (HT.sIx xs.length 0 lo = 0 /\ HT.sIx xs.length xs.length hi = xs.length) /\ ∀ p, H p = none -> Q (.ref p) (upd H p (.tup (zjl xs lo hi)))
theorem sl_tup : SlR X (rSlT X.K) := by
  intro pins s σ H x v vl vu lo hi sl Q I rx hs pl pu h
  obtain ⟨a, xs, rfl, hx, hw, q⟩ := h
  cases rx
  obtain ⟨its, r, ht, hz⟩ := I.tuple hx
  have hlen : its.toArray.size = xs.length := by rw [List.size_toArray]; exact r.length.symm
  refine ⟨"tuple", _, PyProof.Rows.slot_tuple_getitem.lookup, ht.typeIs, ?_⟩
  refine HT.zj9 ht hs pl pu (by rw [hlen]; exact hw) ?_ (by rw [hlen]; exact hz)
  rw [hlen]
  refine ⟨.ref s.heap.objs.size, _, I.laid (t' := s.toks) (o := .tup (zjl xs lo hi)) (fun b ob q => Heap.get?_push_of_some _ q) (Nat.le_refl _) ?_, rfl, q _ (I.hok.fresh (Nat.le_refl _))⟩
  exact ⟨Nat.le_trans (zka xs lo hi) hz, _, (r.drop (HT.sIx xs.length 0 lo)).take (HT.sIx xs.length xs.length hi - HT.sIx xs.length 0 lo), IsTup.new _ _⟩
def rCatT (K : PySem.W.Frag) : R2 := fun x y H Q => ∃ a b xs ys, x = .ref a /\ y = .ref b /\ SqT K H a xs /\ SqT K H b ys /\ xs ≠ [] /\ xs.length + ys.length ≤ sizeLine /\
  (ys = [] -> Q (.ref a) H) /\ (ys ≠ [] -> ∀ p, H p = none -> Q (.ref p) (upd H p (.tup (xs ++ ys))))
theorem Vals.nil_iff {xs : List V} {us : List Value} (r : Vals xs us) : us = [] ↔ xs = [] := by
  cases r with
  | nil => simp
  | cons _ _ => simp
theorem zx4 : OpR X (binaryOp .Add) (rCatT X.K) := by
  intro pins s σ H x y v u Q I rx ry h
  obtain ⟨a, b, xs, ys, rfl, rfl, ha, hb, hx, hz, q1, q2⟩ := h
  cases rx
  cases ry
  obtain ⟨its, r1, p1, _⟩ := I.tuple ha
  obtain ⟨its2, r2, p2, _⟩ := I.tuple hb
  refine HT.zyv p1 p2 (fun z => hx (r1.nil_iff.mp z)) (fun z => ⟨.ref a, H, I, rfl, q1 (r2.nil_iff.mp z)⟩) (fun z => ?_) (by rw [<- r1.length, <- r2.length]; exact hz)
  refine ⟨.ref s.heap.objs.size, _, I.laid (t' := s.toks) (o := .tup (xs ++ ys)) (fun b ob q => Heap.get?_push_of_some _ q) (Nat.le_refl _) ?_, rfl, q2 (fun w => z (r2.nil_iff.mpr w)) _ (I.hok.fresh (Nat.le_refl _))⟩
  exact ⟨by rw [List.length_append]; exact hz, _, r1.append r2, IsTup.new _ _⟩
end
end L2
namespace L2
open PySem PySem.Spec PyProof.Rows
def ixN (n : Nat) (i : Int) : Option Nat := if 0 ≤ i then (if i < n then some i.toNat else none) else if -(n : Int) ≤ i then some (i + n).toNat else none
def atI {α : Type} (xs : List α) (i : Int) : Option α := (ixN xs.length i).bind fun j => xs[j]?
theorem zqs {n : Nat} {i : Int} {j : Nat} (h : ixN n i = some j) : seqIndex? i n = some j /\ j < n /\ -(n : Int) ≤ i /\ i < n := by
  unfold ixN at h
  by_cases h0 : 0 ≤ i
  · rw [if_pos h0] at h
    by_cases h1 : i < n
    · rw [if_pos h1] at h
      have e : i.toNat = j := Option.some.inj h
      exact ⟨by rw [seqIndex_of h0 h1, e], by omega, by omega, h1⟩
    · rw [if_neg h1] at h; cases h
  · rw [if_neg h0] at h
    by_cases h1 : -(n : Int) ≤ i
    · rw [if_pos h1] at h
      have e : (i + n).toNat = j := Option.some.inj h
      exact ⟨by rw [seqIndex_neg (by omega) h1, e], by omega, h1, by omega⟩
    · rw [if_neg h1] at h; cases h
theorem zmv {α : Type} {xs : List α} {i : Int} {v : α} (h : atI xs i = some v) : ∃ j, seqIndex? i xs.length = some j /\ xs[j]? = some v /\ j < xs.length /\ -(xs.length : Int) ≤ i /\ i < xs.length := by
  unfold atI at h
  cases e : ixN xs.length i with
  | none => rw [e] at h; cases h
  | some j =>
    rw [e] at h
    obtain ⟨h1, h2, h3, h4⟩ := zqs e
    exact ⟨j, h1, h, h2, h3, h4⟩
def zgr (b : Expr) : Prop := ∀ o i, subscripted b false o i = operate [o, i] (getItem o i)
def IxR (X : Cx) (r : R2) : Prop :=
  ∀ (value slice : Expr) (pins : List (Addr × Obj)) (s : Shared) (σ : St) (H : Hp) (x y : V) (v u : Value) (Q : VK), Inv X pins σ H s -> RelV x v -> RelV y u -> r x y H Q ->
    subscripted slice false v u = operate [v, u] (getItem v u) -> wpAny (model X.prog X.w) X.A (subscriptTail value slice v u) (EP X pins σ Q) X.xe s
def MtR (X : Cx) (id : String) (r : V -> List V -> Hp -> VK -> Prop) : Prop :=
  ∀ (pins : List (Addr × Obj)) (s : Shared) (σ : St) (H : Hp) (x : V) (xs : List V) (v : Value) (us : List Value) (Q : VK), Inv X pins σ H s -> RelV x v -> Vals xs us -> r x xs H Q ->
    wpAny (model X.prog X.w) X.A (call (.builtin id) (v :: us)) (EP X pins σ Q) X.xe s
section
variable {X : Cx} {a b : Expr} {ta tb : TE} {pos : Pos}
theorem IxR.or {r r' : R2} (h : IxR X r) (h' : IxR X r') : IxR X (fun x y H Q => r x y H Q \/ r' x y H Q) := by
  intro value slice pins s σ H x y v u Q I rx ry q hs
  rcases q with q | q
  · exact h value slice pins s σ H x y v u Q I rx ry q hs
  · exact h' value slice pins s σ H x y v u Q I rx ry q hs
theorem MtR.or {id : String} {r r' : V -> List V -> Hp -> VK -> Prop} (h : MtR X id r) (h' : MtR X id r') : MtR X id (fun x xs H Q => r x xs H Q \/ r' x xs H Q) := by
  intro pins s σ H x xs v us Q I rx rs q
  rcases q with q | q
  · exact h pins s σ H x xs v us Q I rx rs q
  · exact h' pins s σ H x xs v us Q I rx rs q
theorem pe_ix {r : R2} (hr : IxR X r) (ha : PE X a ta) (hb : PE X b tb) (hs : zgr b) : PE X (.Subscript a b pos) (tOp r ta tb) := by
  intro pins s σ H Q I h
  exact Subscript_ (binT ha hb I h fun v u s2 x y H2 I2 rx ry q => hr a b pins s2 σ H2 x y v u Q I2 rx ry q (hs _ _))
def rIxL (K : PySem.W.Frag) : R2 := fun x y H Q => ∃ p xs i v, x = .ref p /\ y = .int i /\ SqL K H p xs /\ atI xs i = some v /\ Q v H
def rIxT (K : PySem.W.Frag) : R2 := fun x y H Q => ∃ p xs i v, x = .ref p /\ y = .int i /\ SqT K H p xs /\ atI xs i = some v /\ Q v H
def rIxS : R2 := fun x y H Q => ∃ z i c, x = .str z /\ y = .int i /\ z.length ≤ sizeLine /\ atI z.cps.toList i = some c /\ Q (.str ⟨#[c]⟩) H
theorem zyb : IxR X (rIxL X.K) := by
  intro value slice pins s σ H x y v u Q I rx ry h hs
  obtain ⟨p, xs, i, z, rfl, rfl, hq, he, q⟩ := h
  cases rx
  obtain ⟨t, rfl⟩ := ry
  obtain ⟨its, r, pl, hz⟩ := I.list hq
  obtain ⟨j, h1, h2, h3, h4, h5⟩ := zmv he
  obtain ⟨w, ew, rw'⟩ := r.get h2
  have hl := r.length
  have hn := zhs
  have fin : EP X pins σ Q w s := ⟨z, H, I, rw', q⟩
  by_cases h0 : 0 ≤ i
  · have hj : i.toNat = j := by
      rw [seqIndex_of h0 h5] at h1
      exact Option.some.inj h1
    exact item_listR pl.isList h0 (by omega) (by rw [hj]; simpa using ew) fin hs
  · have hj : (i + (its.toArray.size : Int)).toNat = j := by
      rw [seqIndex_neg (by omega) h4] at h1
      rw [List.size_toArray, <- hl]
      exact Option.some.inj h1
    exact subscriptTail_builtinR (x := w) pl.isList.typeIs slot_list_getitem.lookup
      (wpAny_getItem_list_neg (Q := fun r s' => r = w /\ EP X pins σ Q r s') pl.isList (by omega) (by rw [List.size_toArray] <;> omega) (by omega) (by rw [hj]; simpa using ew) ⟨rfl, fin⟩) hs
theorem ix_tup : IxR X (rIxT X.K) := by
  intro value slice pins s σ H x y v u Q I rx ry h hs
  obtain ⟨p, xs, i, z, rfl, rfl, hq, he, q⟩ := h
  cases rx
  obtain ⟨t, rfl⟩ := ry
  obtain ⟨its, r, pl, hz⟩ := I.tuple hq
  obtain ⟨j, h1, h2, h3, h4, h5⟩ := zmv he
  obtain ⟨w, ew, rw'⟩ := r.get h2
  have hl := r.length
  have hn := zhs
  have fin : EP X pins σ Q w s := ⟨z, H, I, rw', q⟩
  exact subscriptTail_builtinR (x := w) pl.typeIs slot_tuple_getitem.lookup
    (getItem_tuple (j := j) (Q := fun r s' => r = w /\ EP X pins σ Q r s') pl (by omega) (by omega) (by rw [List.size_toArray, <- hl]; exact h1) (by simpa using ew) ⟨rfl, fin⟩) hs
theorem ix_str : IxR X rIxS := by
  intro value slice pins s σ H x y v u Q I rx ry h hs
  obtain ⟨z, i, c, rfl, rfl, hz, he, q⟩ := h
  obtain ⟨t, rfl⟩ := rx
  obtain ⟨t', rfl⟩ := ry
  obtain ⟨j, h1, h2, h3, h4, h5⟩ := zmv he
  have hl : z.cps.toList.length = z.length := by simp [Str.length]
  rw [hl] at h1 h4 h5
  have hn := zhs
  exact tail_any (typeIs_str s z t) slot_str_getitem.lookup (getItem_str (c := c) (by
    have e1 : decide (i < -(2 ^ 63 : Int)) = false := decide_eq_false (by omega)
    have e2 : decide (i ≥ 2 ^ 63) = false := decide_eq_false (by omega)
    rw [e1, e2, Bool.or_false]) (by rw [h1]; simpa using h2) ⟨.str ⟨#[c]⟩, H, I.tok _, ⟨_, rfl⟩, q⟩) hs
def rIx (K : PySem.W.Frag) : R2 := fun x y H Q => rIxL K x y H Q \/ rIxT K x y H Q \/ rIxS x y H Q
theorem ix_seq : IxR X (rIx X.K) := zyb.or (ix_tup.or ix_str)
theorem zrm (its : List Value) (n j : Nat) (u : Value) : Obj.mapSeq (·.setIfInBounds j u) { cls := .type "list", data := .seq its.toArray n } = { cls := .type "list", data := .seq (its.set j u).toArray n } := by
  simp [Obj.mapSeq]
theorem Inv.lst {pins : List (Addr × Obj)} {σ : St} {H : Hp} {s : Shared} {p : Addr} {xs : List V} (I : Inv X pins σ H s) (h : H p = some (.lst xs)) :
    ∃ (its : List Value) (n : Nat), Vals xs its /\ s.heap.get? p = some { cls := .type "list", data := .seq its.toArray n } /\ xs.length ≤ sizeLine := by
  obtain ⟨z, its, n, r, e⟩ := I.hok p _ h
  exact ⟨its, n, r, e, z⟩
theorem Inv.lstUpd {pins : List (Addr × Obj)} {σ : St} {H : Hp} {s : Shared} {p : Addr} {xs ys : List V} {its its' : List Value} {n n' : Nat} {f : Obj -> Obj} (I : Inv X pins σ H s) (h : H p = some (.lst xs))
    (ho : s.heap.get? p = some { cls := .type "list", data := .seq its.toArray n }) (hf : f { cls := .type "list", data := .seq its.toArray n } = { cls := .type "list", data := .seq its'.toArray n' }) (r : Vals ys its') (hz : ys.length ≤ sizeLine) (t : Nat) :
    Inv X pins σ (upd H p (.lst ys)) { s with heap := s.heap.update p f, toks := t } := by
  have e : (s.heap.update p f).get? p = some { cls := .type "list", data := .seq its'.toArray n' } := by
    rw [Heap.get?_update_self f ho (by rw [hf] <;> rfl), hf]
  refine I.write (x := p) (e := p) (by rw [h]; trivial) (.inl rfl) (fun b u hb q => (Heap.get?_update_other _ _ (Ne.symm hb)).trans q) ⟨_, e⟩ ?_
  exact ⟨hz, its', n', r, e⟩
def rSetL : V -> V -> V -> Hp -> (Hp -> Prop) -> Prop := fun o i v H Q => ∃ p xs k j, o = .ref p /\ i = .int k /\ H p = some (.lst xs) /\ ixN xs.length k = some j /\ Q (upd H p (.lst (xs.set j v)))
theorem set_list : PSet X rSetL := by
  intro pins s σ H o i v ov iv u Q I ro ri rv h
  obtain ⟨p, xs, k, j, rfl, rfl, hp, hj, q⟩ := h
  cases ro
  obtain ⟨t, rfl⟩ := ri
  obtain ⟨its, n, r, ho, hz⟩ := I.lst hp
  obtain ⟨h1, h2, h3, h4⟩ := zqs hj
  have hl := r.length
  have hn := zhs
  have I' : Inv X pins σ (upd H p (.lst (xs.set j v))) { s with heap := s.heap.update p (Obj.mapSeq (·.setIfInBounds j u)) } :=
    I.lstUpd hp ho (zrm its n j u) (r.set rv j) (by rw [List.length_set]; exact hz) s.toks
  by_cases h0 : 0 ≤ k
  · have hk : k.toNat = j := by
      rw [seqIndex_of h0 h4] at h1
      exact Option.some.inj h1
    exact PySem.W.ki_setAt ho h0 (by omega) (by rw [List.size_toArray, <- hl]; exact h4) (by rw [hk]; exact ⟨_, I', q⟩)
  · have hk : (k + (its.toArray.size : Int)).toNat = j := by
      rw [seqIndex_neg (by omega) h3] at h1
      rw [List.size_toArray, <- hl]
      exact Option.some.inj h1
    exact PySem.W.ki_setBack ho (by omega) (by rw [List.size_toArray, <- hl]; exact h3) (by omega) (by rw [hk]; exact ⟨_, I', q⟩)
theorem zok (lo hi : Option Int) (n : Nat) : (sliceBounds lo hi none n).1 = ((HT.sIx n 0 lo : Nat) : Int) /\ (sliceBounds lo hi none n).2.1 = ((HT.sIx n n hi : Nat) : Int) /\ (sliceBounds lo hi none n).2.2 = 1 := by
  refine ⟨?_, ?_, rfl⟩
  · cases lo with
    | none => simp [sliceBounds, HT.sIx]
    | some i =>
      simp only [sliceBounds, HT.sIx, Option.getD_none, show (1 : Int) > 0 by decide, if_true]
      by_cases h : i < 0
      · simp only [h, if_true] <;> omega
      · simp only [h, if_false] <;> omega
  · cases hi with
    | none => simp [sliceBounds, HT.sIx]
    | some i =>
      simp only [sliceBounds, HT.sIx, Option.getD_none, show (1 : Int) > 0 by decide, if_true]
      by_cases h : i < 0
      · simp only [h, if_true] <;> omega
      · simp only [h, if_false] <;> omega
theorem zni (its : List Value) (lo hi : Option Int) : slicePick its.toArray lo hi none = ((its.drop (HT.sIx its.length 0 lo)).take (HT.sIx its.length its.length hi - HT.sIx its.length 0 lo)).toArray := by
  obtain ⟨h1, h2, h3⟩ := zok lo hi its.toArray.size
  unfold slicePick
  rw [h1, h2, h3]
  simp only [sliceRange_one, pick_run, List.size_toArray] <;> rfl
def rSlL (K : PySem.W.Frag) : V -> Option Int -> Option Int -> Hp -> VK -> Prop := fun x lo hi H Q => ∃ a xs, x = .ref a /\ SqL K H a xs /\ ∀ p, H p = none -> Q (.ref p) (upd H p (.lst (zjl xs lo hi)))
theorem zxb : SlR X (rSlL X.K) := by
  intro pins s σ H x v vl vu lo hi sl Q I rx hs pl pu h
  obtain ⟨a, xs, rfl, hx, q⟩ := h
  cases rx
  obtain ⟨its, r, ht, hz⟩ := I.list hx
  have hlen := r.length
  refine ⟨"list", _, slot_list_getitem.lookup, ht.isList.typeIs, ?_⟩
  refine wpAny_getItem_list_slice ht.isList hs pl pu .none (by simp) ?_ (by rw [List.size_toArray] <;> omega)
  rw [zni, <- hlen]
  refine ⟨.ref s.heap.objs.size, _, I.laid (t' := s.toks) (o := .lst (zjl xs lo hi)) (fun b ob q => Heap.get?_push_of_some _ q) (Nat.le_refl _) ?_, rfl, q _ (I.hok.fresh (Nat.le_refl _))⟩
  exact ⟨Nat.le_trans (zka xs lo hi) hz, _, 0, (r.drop (HT.sIx xs.length 0 lo)).take (HT.sIx xs.length xs.length hi - HT.sIx xs.length 0 lo), Heap.get?_push_size _ rfl⟩
theorem zps : zdl X (.builtin "len") (fun xs H Q => ∃ p ys, xs = [.ref p] /\ (SqL X.K H p ys \/ SqT X.K H p ys) /\ Q (.int ys.length) H) := by
  intro pins s σ H xs us Q I r h
  obtain ⟨p, ys, rfl, hq, q⟩ := h
  obtain ⟨u, rfl, rx⟩ := vals1 r
  cases rx
  have hn := zhs
  rcases hq with hq | hq
  · obtain ⟨its, r', pl, hz⟩ := I.list hq
    have hlen := r'.length
    exact Calls.call_len_list pl.isList (by simp only [List.size_toArray] <;> omega) ⟨.int ys.length, H, I.tok _, ⟨s.toks + 1, by rw [List.size_toArray, hlen]⟩, q⟩
  · obtain ⟨its, r', pl, hz⟩ := I.tuple hq
    have hlen := r'.length
    exact len_tuple pl (by simp only [List.size_toArray] <;> omega) ⟨.int ys.length, H, I.tok _, ⟨s.toks + 1, by rw [List.size_toArray, hlen]⟩, q⟩
theorem zpr : zdl X (.builtin "len") (fun xs H Q => ∃ z, xs = [.str z] /\ z.length ≤ sizeLine /\ Q (.int z.length) H) := by
  intro pins s σ H xs us Q I r h
  obtain ⟨z, rfl, hz, q⟩ := h
  obtain ⟨u, rfl, t, rfl⟩ := vals1 r
  have hn := zhs
  exact len_str (by omega) ⟨.int z.length, H, I.tok _, ⟨_, rfl⟩, q⟩
theorem zdl.or {f : Value} {r r' : List V -> Hp -> VK -> Prop} (h : zdl X f r) (h' : zdl X f r') : zdl X f (fun xs H Q => r xs H Q \/ r' xs H Q) := by
  intro pins s σ H xs us Q I rs q
  rcases q with q | q
  · exact h pins s σ H xs us Q I rs q
  · exact h' pins s σ H xs us Q I rs q
theorem zpq : zdl X (.type "list") (fun xs H Q => ∃ p ys, xs = [.ref p] /\ (SqL X.K H p ys \/ SqT X.K H p ys) /\ ∀ l, H l = none -> Q (.ref l) (upd H l (.lst ys))) := by
  intro pins s σ H xs us Q I r h
  obtain ⟨p, ys, rfl, hq, q⟩ := h
  obtain ⟨u, rfl, rx⟩ := vals1 r
  cases rx
  have fin : ∀ (its : List Value), Vals ys its -> ys.length ≤ sizeLine -> ∀ (h' : Heap) (c' : Nat), (∀ b o', s.heap.get? b = some o' -> h'.get? b = some o') ->
      h'.get? s.heap.objs.size = some { cls := .type "list", dict := none, data := .seq its.toArray c', slots := #[] } -> EP X pins σ Q (.ref s.heap.objs.size) { s with heap := h' } := fun its r' hz h' c' kp e =>
    ⟨.ref s.heap.objs.size, _, I.laid (t' := s.toks) kp (Nat.le_refl _) (show zdg X.prog X.w _ h' _ (.lst ys) from ⟨hz, its, c', r', e⟩), rfl, q _ (I.hok.fresh (Nat.le_refl _))⟩
  rcases hq with hq | hq
  · obtain ⟨its, r', pl, hz⟩ := I.list hq
    have hlen := r'.length
    obtain ⟨o, ho, hc, n, hd⟩ := pl.isList
    exact call_list_seq p (.inl rfl) ho hc hd (fun h' c' kp e => fin its r' hz h' c' kp e) (by simp only [List.size_toArray] <;> omega)
  · obtain ⟨its, r', pl, hz⟩ := I.tuple hq
    have hlen := r'.length
    obtain ⟨o, ho, hc, n, hd⟩ := pl
    exact call_list_seq p (.inr rfl) ho hc hd (fun h' c' kp e => fin its r' hz h' c' kp e) (by simp only [List.size_toArray] <;> omega)
theorem znp : zdl X (.type "tuple") (fun xs H Q => ∃ p ys, xs = [.ref p] /\ ((SqL X.K H p ys /\ ∀ l, H l = none -> Q (.ref l) (upd H l (.tup ys))) \/ (SqT X.K H p ys /\ Q (.ref p) H))) := by
  intro pins s σ H xs us Q I r h
  obtain ⟨p, ys, rfl, h⟩ := h
  obtain ⟨u, rfl, rx⟩ := vals1 r
  cases rx
  rcases h with ⟨hq, q⟩ | ⟨hq, q⟩
  · obtain ⟨its, r', pl, hz⟩ := I.list hq
    have hlen := r'.length
    refine call_tuple_list pl.isList (fun h' kp => ?_) (by simp only [List.size_toArray] <;> omega)
    have I1 : Inv X pins σ H { s with heap := h' } := I.kept (t' := s.toks) kp
    have I2 : Inv X pins σ (upd H h'.objs.size (.tup ys)) { s with heap := h'.push { cls := .type "tuple", data := .seq its.toArray } } :=
      I1.laid (t' := s.toks) (fun b o e => Heap.get?_push_of_some _ e) (Nat.le_refl _) (show zdg X.prog X.w _ _ _ (.tup ys) from ⟨hz, its, r', IsTup.new _ _⟩)
    exact ⟨.ref h'.objs.size, _, I2, rfl, q _ (I1.hok.fresh (Nat.le_refl _))⟩
  · obtain ⟨its, r', pl, hz⟩ := I.tuple hq
    exact call_tuple_same pl ⟨.ref p, H, I, rfl, q⟩
def tyV (K : PySem.W.Frag) (T : String) (x : V) (H : Hp) : Prop := match x with
  | .str _ => T = "str"
  | .int _ => T = "int"
  | .ref p => (T = "list" /\ ∃ xs, SqL K H p xs) \/ (T = "tuple" /\ ∃ o, K.lookup p = some o /\ o.cls = .type "tuple" /\ o.dict = none) \/
      (T = "dict" /\ ((∃ kvs, H p = some (.dK kvs)) \/ ∃ kvs, H p = some (.dT kvs))) \/ (T = "set" /\ ∃ S n, H p = some (.set S n))
  | _ => False
theorem tyV_is {pins : List (Addr × Obj)} {σ : St} {H : Hp} {s : Shared} {T : String} {x : V} {v : Value} (I : Inv X pins σ H s) (r : RelV x v) (ty : tyV X.K T x H) :
    s.TypeIs v T /\ ∀ a, v = .ref a -> ∃ ob, s.heap.get? a = some ob /\ ob.dict = none := by
  cases x with
  | str z =>
    obtain ⟨t, rfl⟩ := r
    cases (show T = "str" from ty)
    exact ⟨typeIs_str s z t, fun _ e => nomatch e⟩
  | int i =>
    obtain ⟨t, rfl⟩ := r
    cases (show T = "int" from ty)
    exact ⟨typeIs_int s i t, fun _ e => nomatch e⟩
  | ref p =>
    cases r
    rcases ty with ⟨rfl, xs, hq⟩ | ⟨rfl, o, hk, hc, hd⟩ | ⟨rfl, hk⟩ | ⟨rfl, S, n, hk⟩
    · obtain ⟨its, _, pl, _⟩ := I.list hq
      refine ⟨pl.isList.typeIs, fun a e => ?_⟩
      cases e
      obtain ⟨o, n, e, c, hd, _⟩ := pl
      exact ⟨o, e, hd⟩
    · refine ⟨⟨o, I.kIn p o hk, hc⟩, fun a e => ?_⟩
      cases e
      exact ⟨o, I.kIn _ o hk, hd⟩
    · have z : ∃ o, s.heap.get? p = some o /\ o.ExactDict := by
        rcases hk with ⟨kvs, hk⟩ | ⟨kvs, hk⟩
        · obtain ⟨_, _, _, _, o, _, _, e, ex, _⟩ := I.hok p _ hk
          exact ⟨o, e, ex⟩
        · obtain ⟨_, _, _, _, o, _, _, e, ex, _⟩ := I.hok p _ hk
          exact ⟨o, e, ex⟩
      obtain ⟨o, e, ex⟩ := z
      refine ⟨⟨o, e, ex.1⟩, fun a e2 => ?_⟩
      cases e2
      exact ⟨o, e, ex.2.1⟩
    · obtain ⟨o, _, _, _, e, ex, _⟩ := I.hok p _ hk
      refine ⟨⟨o, e, ex.1⟩, fun a e2 => ?_⟩
      cases e2
      exact ⟨o, e, ex.2.1⟩
  | _ => exact False.elim ty
def tBM (K : PySem.W.Frag) (T : String) (r : V -> List V -> Hp -> VK -> Prop) (to : TE) (t : TA) : TE := fun σ H Q => to σ H fun x H1 => tyV K T x H1 /\ t σ H1 fun xs H2 => r x xs H2 Q
variable {o e : Expr} {es : List Expr} {to : TE} {t : TA} {name : Str} {apos cpos : Pos} {T id : String} {r : V -> List V -> Hp -> VK -> Prop}
theorem pe_bm (pa : PlainAttrs T) (slot : Slot T name id) (hty : typeOf (.builtin id) = pure (.type "method_descriptor")) (hm : MtR X id r) (ho : PE X o to) (ha : PA X (e :: es) t)
    (hbase : attributeBase o name X.env (eval o X.env) = eval o X.env := by rfl)
    (hfew : ((backTo cpos (starEach (e :: es) X.env)).all (fun x => !x.1) && (backToKw cpos (keywordEach [] X.env)).all (fun x => x.1.isSome)
      && decide ((e :: es).length + ([] : List Keyword).length + (if ([] : List Keyword).isEmpty then 0 else 1) < 30)) = true := by rfl)
    (hline : (apos.endLine == cpos.line) = true := by rfl) (hs : starEach (e :: es) X.env = (false, eval e X.env) :: starEach es X.env := by rfl) (hplain : (backTo cpos (starEach es X.env)).any (·.1) = false := by rfl) :
    PE X (.Call (.Attribute o name apos) (e :: es) [] cpos) (tBM X.K T r to t) := by
  intro pins s σ H Q I h
  refine wpAny_Call_method_late hbase hfew hline rfl (thn (ho pins s σ H _ I h) fun v s1 ⟨x, H1, I1, r1, ty, q1⟩ => ?_)
  obtain ⟨h1, h2⟩ := tyV_is I1 r1 ty
  refine ⟨T, id, pa, slot, hty, h1, h2, ?_⟩
  have hA := ha cpos pins s1 σ H1 _ I1 q1
  rw [hs] at hA ⊢
  refine Calls.callWith_builtin (by show (false || (backTo cpos (starEach es X.env)).any (·.1)) = false; rw [hplain] <;> rfl) (Calls.evalArgs_plain ?_)
  exact thn hA fun us s2 ⟨vs, H2, I2, r2, q2⟩ => hm pins s2 σ H2 x vs v us Q I2 r1 r2 q2
end
end L2
namespace L2
open PySem PySem.Spec PyProof.Rows
def MtM (X : Cx) (id : String) (r : V -> List V -> Hp -> VK -> Prop) : Prop :=
  ∀ (pins : List (Addr × Obj)) (s : Shared) (σ : St) (H : Hp) (x : V) (xs : List V) (v : Value) (us : List Value) (Q : VK), Inv X pins σ H s -> RelV x v -> Vals xs us -> r x xs H Q ->
    wpAny (model X.prog X.w) X.A (call (.builtin id) (v :: us)) (EP X pins σ Q) X.xe s
theorem Vals.one : ∀ {x : V} {us : List Value}, Vals [x] us -> ∃ u, us = [u] /\ RelV x u
  | _, _, .cons r .nil => ⟨_, rfl, r⟩
theorem Vals.two : ∀ {x y : V} {us : List Value}, Vals [x, y] us -> ∃ u v, us = [u, v] /\ RelV x u /\ RelV y v
  | _, _, _, .cons r (.cons q .nil) => ⟨_, _, rfl, r, q⟩
theorem Vals.zero : ∀ {us : List Value}, Vals [] us -> us = []
  | _, .nil => rfl
theorem Vals.reverse {xs : List V} {us : List Value} (h : Vals xs us) : Vals xs.reverse us.reverse := by
  induction h with
  | nil => exact .nil
  | cons r t ih => rw [List.reverse_cons, List.reverse_cons]; exact Vals.append ih (.cons r .nil)
theorem Vals.rep {xs : List V} {us : List Value} (h : Vals xs us) : ∀ k : Nat, Vals (List.replicate k xs).flatten (List.replicate k us).flatten
  | 0 => .nil
  | k + 1 => by
    rw [List.replicate_succ, List.replicate_succ, List.flatten_cons, List.flatten_cons]
    exact Vals.append h (Vals.rep h k)
theorem foldl_rep (its : List Value) : ∀ (k : Nat) (acc : List Value),
    List.foldl (fun x1 x2 => x1 ++ x2) acc.toArray (List.replicate k its.toArray) = (acc ++ (List.replicate k its).flatten).toArray
  | 0, acc => by simp
  | k + 1, acc => by
    have e : acc.toArray ++ its.toArray = (acc ++ its).toArray := by simp
    have e2 : (acc ++ its) ++ (List.replicate k its).flatten = acc ++ (List.replicate (k + 1) its).flatten := by
      rw [List.replicate_succ, List.flatten_cons, List.append_assoc]
    rw [<- e2, <- foldl_rep its k (acc ++ its), <- e, List.replicate_succ, List.foldl_cons]
section
variable {X : Cx} {pins : List (Addr × Obj)} {σ : St} {H : Hp} {s : Shared} {l b : Addr} {xs ys zs : List V}
theorem Inv.lset {its its' : List Value} {n : Nat} {f : Array Value -> Array Value} {t' : Nat} (I : Inv X pins σ H s) (hH : H l = some (.lst xs))
    (e : s.heap.get? l = some { cls := .type "list", data := .seq its.toArray n }) (hf : f its.toArray = its'.toArray) (hv : Vals ys its') (hz : ys.length ≤ sizeLine) :
    Inv X pins σ (upd H l (.lst ys)) { s with heap := s.heap.update l (Obj.mapSeq f), toks := t' } := by
  have q := PySem.IsL.update e f
  rw [hf] at q
  refine I.write (x := l) (e := l) (by rw [hH]; exact trivial) (.inl rfl) (fun b' u hb hu => (Heap.get?_update_other s.heap (Obj.mapSeq f) (Ne.symm hb)).trans hu) ⟨_, q⟩ ?_
  exact ⟨hz, its', _, hv, q⟩
theorem Inv.lnew {its : List Value} {t' : Nat} (I : Inv X pins σ H s) (hv : Vals ys its) (hz : ys.length ≤ sizeLine) :
    Inv X pins σ (upd H s.heap.objs.size (.lst ys)) { s with heap := s.heap.push { cls := .type "list", data := .seq its.toArray }, toks := t' } :=
  I.laid (fun _ _ q => Heap.get?_push_of_some _ q) (Nat.le_refl _) ⟨hz, its, 0, hv, Heap.get?_push_size _ rfl⟩
theorem Inv.fresh (I : Inv X pins σ H s) : H s.heap.objs.size = none := I.hok.fresh (Nat.le_refl _)
theorem Inv.lstM (I : Inv X pins σ H s) (hH : H l = some (.lst xs)) : xs.length ≤ sizeLine /\ ∃ (its : List Value) (n : Nat), Vals xs its /\ xs.length = its.length /\ s.heap.get? l = some { cls := .type "list", data := .seq its.toArray n } := by
  obtain ⟨z, its, n, r, e⟩ := I.hok l _ hH
  exact ⟨z, its, n, r, r.length, e⟩
theorem zo6 {n : Nat} (h : n ≤ sizeLine) : Builtin.List.listTooLong n = false := by
  unfold Builtin.List.listTooLong
  exact decide_eq_false (by omega)
end
section
variable {X : Cx}
def zxl : V -> List V -> Hp -> VK -> Prop := fun x vs H Q => ∃ l xs y, x = .ref l /\ vs = [y] /\ H l = some (.lst xs) /\ xs.length < sizeLine /\ Q .non (upd H l (.lst (xs ++ [y])))
theorem zm5 : MtM X "list.append" zxl := by
  intro pins s σ H x vs v us Q I rx rv h
  obtain ⟨l, xs, y, rfl, rfl, hH, hz, q⟩ := h
  cases rx
  obtain ⟨u, rfl, ru⟩ := rv.one
  obtain ⟨z, its, n, r, hl, e⟩ := I.lstM hH
  refine call_meets F.slot_list_append ⟨_, e, rfl⟩ F.entry_list_append (F.args_list_append_2 _ _) (PySem.list_append l its.toArray n u (by rw [List.size_toArray]; omega)) ⟨e, ?_⟩
  refine ⟨.non, _, I.lset (its' := its ++ [u]) hH e (by simp) (r.append (.cons ru .nil)) ?_, rfl, q⟩
  rw [List.length_append, List.length_singleton]
  omega
def zxk : V -> List V -> Hp -> VK -> Prop := fun x vs H Q => ∃ l b xs zs, x = .ref l /\ vs = [.ref b] /\ H l = some (.lst xs) /\ H b = some (.lst zs) /\ xs.length + zs.length ≤ sizeLine /\ Q .non (upd H l (.lst (xs ++ zs)))
theorem mt_extend : MtM X "list.extend" zxk := by
  intro pins s σ H x vs v us Q I rx rv h
  obtain ⟨l, b, xs, zs, rfl, rfl, hH, hB, hz, q⟩ := h
  cases rx
  obtain ⟨u, rfl, ru⟩ := rv.one
  cases ru
  obtain ⟨z, its, n, r, hl, e⟩ := I.lstM hH
  obtain ⟨z2, its2, n2, r2, hl2, e2⟩ := I.lstM hB
  have hsz : its.toArray.size + its2.toArray.size ≤ sizeLine := by rw [List.size_toArray, List.size_toArray]; omega
  have hlong : ¬ (!its.toArray.isEmpty && Builtin.List.listTooLong (its.toArray.size + its2.toArray.size)) = true := by
    rw [zo6 hsz, Bool.and_false]
    exact Bool.false_ne_true
  refine call_meets F.slot_list_extend ⟨_, e, rfl⟩ F.entry_list_extend (F.args_list_extend_2 _ _)
    (AutoSeq1.list_extend_list_list_0 l its.toArray n b its2.toArray n2 hlong (by rw [List.size_toArray]; omega) (by omega)) ⟨e, e2, ?_⟩
  refine ⟨.non, _, I.lset (its' := its ++ its2) hH e (by simp) (r.append r2) ?_, rfl, q⟩
  rw [List.length_append]
  omega
def rCat : R2 := fun x y H Q => ∃ l b xs zs, x = .ref l /\ y = .ref b /\ H l = some (.lst xs) /\ H b = some (.lst zs) /\ xs.length + zs.length ≤ sizeLine /\ ∀ p, H p = none -> Q (.ref p) (upd H p (.lst (xs ++ zs)))
theorem op_cat : OpR X (binaryOp .Add) rCat := by
  intro pins s σ H x y v u Q I rx ry h
  obtain ⟨l, b, xs, zs, rfl, rfl, hH, hB, hz, q⟩ := h
  cases rx
  cases ry
  obtain ⟨z, its, n, r, hl, e⟩ := I.lstM hH
  obtain ⟨z2, its2, n2, r2, hl2, e2⟩ := I.lstM hB
  refine PySem.P.add_list e e2 ?_ (by rw [List.size_toArray, List.size_toArray]; omega)
  have ea : its.toArray ++ its2.toArray = (its ++ its2).toArray := by simp
  rw [ea]
  exact ⟨.ref _, _, I.lnew (t' := s.toks) (r.append r2) (by rw [List.length_append]; omega), rfl, q _ I.fresh⟩
def rRep : R2 := fun x y H Q => ∃ l k xs, x = .ref l /\ y = .int k /\ H l = some (.lst xs) /\ -(2 ^ 63) ≤ k /\ k < 2 ^ 63 /\ xs.length * k.toNat ≤ sizeLine /\
  ∀ p, H p = none -> Q (.ref p) (upd H p (.lst (List.replicate k.toNat xs).flatten))
theorem len_rep {α : Type} (xs : List α) (k : Nat) : (List.replicate k xs).flatten.length = k * xs.length := by
  induction k with
  | zero => simp
  | succ k ih => rw [List.replicate_succ, List.flatten_cons, List.length_append, ih, Nat.succ_mul, Nat.add_comm]
theorem op_rep : OpR X (binaryOp .Mult) rRep := by
  intro pins s σ H x y v u Q I rx ry h
  obtain ⟨l, k, xs, rfl, rfl, hH, h1, h2, hz, q⟩ := h
  cases rx
  obtain ⟨t, rfl⟩ := ry
  obtain ⟨z, its, n, r, hl, e⟩ := I.lstM hH
  have hlen : its.toArray.size * k.toNat ≤ sizeLine := by rw [List.size_toArray, <- hl]; exact hz
  have hcap : ¬ its.toArray.size * k.toNat > (2 ^ 63 - 1) / 8 := by
    have : (sizeLine : Nat) ≤ (2 ^ 63 - 1) / 8 := by decide
    omega
  have hfit : ¬ (!Builtin.List.listFitsIndex k) = true := by
    rw [fitsIndex_both h1 h2]
    exact Bool.false_ne_true
  have hlong : ¬ Builtin.List.listTooLong (its.toArray.size * k.toNat) = true := by
    rw [zo6 hlen]
    exact Bool.false_ne_true
  have hnew : List.foldl (fun x1 x2 => x1 ++ x2) #[] (List.replicate (if its.toArray.isEmpty = true then 0 else k.toNat) its.toArray) = (List.replicate k.toNat its).flatten.toArray := by
    have f0 : ∀ m : Nat, List.foldl (fun x1 x2 => x1 ++ x2) #[] (List.replicate m its.toArray) = (List.replicate m its).flatten.toArray := fun m => by
      have := foldl_rep its m []
      rw [List.nil_append] at this
      exact this
    rw [f0]
    cases its with
    | nil => simp
    | cons a r' => rw [if_neg (by simp)]
  refine wpAny_binaryOp_repeat_ref (T := "list") (U := "int") (by decide) ⟨_, e, rfl⟩ (fun s' => typeIs_int s' k t) noFill_list_mul F.fills_int_mul F.slot_int_rmul repeat_list F.slot_int_index.lookup
    (call_meets F.slot_int_rmul (typeIs_int s k t) F.entry_int_rmul (F.args_int_rmul_2 _ _) (int___rmul___int_list k t l its.toArray n)
      ⟨e, rfl, ⟨_, e, rfl⟩, call_meets F.slot_list_mul ⟨_, e, rfl⟩ F.entry_list_mul (F.args_list_mul_2 _ _) (AutoListH.list___mul___list_int_3 l its.toArray n k t hfit hcap hlong) ⟨e, ?_⟩⟩)
  rw [hnew]
  exact ⟨.ref _, _, I.lnew (t' := s.toks) (r.rep k.toNat) (by rw [len_rep, Nat.mul_comm]; exact hz), rfl, q _ I.fresh⟩
end
section
variable {prog : Program} {w : World} {A : Around} {E : Value -> Shared -> Prop} {s : Shared}
end
section
variable {X : Cx}
end
end L2
namespace Att
open PySem PySem.W PySem.Calls PyProof.Rows
theorem zlo {P : Params} {h : Heap} : ∀ (ns : List Int) (vs : List Value), WellAll P h vs (ns.map WData.int) -> IntsAre vs ns := by
  intro ns
  induction ns with
  | nil =>
    intro vs w
    rw [List.map_nil] at w
    cases w
    exact .nil
  | cons n ns ih =>
    intro vs w
    rw [List.map_cons] at w
    cases w with
    | cons a b =>
      cases a
      exact .cons _ _ (ih _ b)
theorem zsq {l : OpenLaw} {n : Nat} (hn : l.most = some n) {P : Params} {h : Heap} {args : List WData} {vals : List Value}
    (hpre : l.row.toRowW.claim.pre args = true) (hwl : WellAll P h vals args) :
    ∃ a vs ns, vals = [Value.ref a] /\ args = [WData.list (ns.map WData.int)] /\ h.get? a = some { cls := .type "list", data := .seq vs.toArray } /\ IntsAre vs ns /\ ns.length ≤ n := by
  have hsh : WShape.hasAll [] args [.list .int] = true := (pre_splitW hpre).1
  have hc : l.pre.holds [] { args := args } = true := (pre_splitW hpre).2
  obtain ⟨d, r, rfl, h1, h2⟩ := hasAllW_cons hsh
  obtain rfl := hasAllW_nil h2
  obtain ⟨xs, rfl, h3⟩ := hasW_list h1
  obtain ⟨ns, rfl⟩ := items_int h3
  have hlen : ns.length ≤ n := by
    unfold OpenLaw.pre at hc
    have h4 : (WTm.not (.lt (.lit (.int (n : Int))) (.len (.arg 0)))).holds [] { args := [.list (ns.map .int)] } = true := by
      have h4 := (holds_andW hc).1
      rw [hn] at h4
      exact h4
    have h5 := condW_of h4 (w_not (w_lt w_lit (w_len_list (w_arg rfl))))
    rw [List.length_map] at h5
    refine Nat.le_of_not_lt fun q => ?_
    have q' : (n : Int) < ((ns.length : Nat) : Int) := by omega
    first
      | (rw [decide_eq_true q'] at h5; exact absurd h5 (by decide))
      | (simp at h5; omega)
  cases hwl with
  | cons w1 w2 =>
    cases w2
    cases w1 with
    | list ho hall => exact ⟨_, _, ns, rfl, rfl, ho, zlo ns _ hall, hlen⟩
theorem zsy (l : OpenLaw) (args : List WData) : l.row.toRowW.claim.post args (.bool true) args = true :=
  postW_of (r := l.row.toRowW) (X := (true == true))
    (show WShape.has [] (.bool true) .bool = true by first | rfl | decide | simp [WShape.has, WShape.arms, WShape.armsAll])
    (show (WTm.eq .res (.lit (.bool true))).value [] { args := args, res := some (.bool true), after := args } = some (.bool (true == true)) from w_eq_bool (w_res rfl) w_lit) rfl
theorem attach_call {l : OpenLaw} {n : Nat} {q : Program} {loose : List Str} {XP : (Str -> Option Value) -> Heap -> Prop} {YP : World -> Heap -> Prop} {d : DefRec}
    (hn : l.most = some n) (hdf : d.params.defaults = [])
    (call : ∀ (w : World) (s₀ s₁ : Shared) (mg mb : Str -> Option Value) (fa : Addr) (o : Obj) (pm cd doc : Value) (a : Addr) (vs : List Value) (ns : List Int),
      Ground q loose [] XP w s₀ mg mb s₁.heap -> YP w s₁.heap ->
      s₁.heap.get? fa = some o -> o.data = .func (docDef d.name d.params d.body d.scope pm cd doc) -> s₁.heap.CodeRec cd d.name -> mg d.name = some (.ref fa) ->
      s₁.heap.get? a = some { cls := .type "list", data := .seq vs.toArray } -> IntsAre vs ns -> ns.length ≤ n -> s₁.gens = #[] ->
      codeAny (model l.prog w) callerA (.call (.ref fa) ⟨[.ref a], []⟩) (fun r s' => r = .ok (.ret (.bool true)) /\ OldK s₁.heap s'.heap /\ s'.os = s₁.os /\ AllBare s'.gens) s₁) :
    WalkO q loose XP YP l.row.toRowW d [] (fun f vs => PySem.call f vs) := by
  intro w s₀ s₁ mg mb G Y fa o pm cd doc dV kV ho hd hcd hD hmg hg args vals as hpre hlay hrd hwl hlo
  obtain rfl : dV = .none := Dflts.none hD hdf
  obtain rfl : kV = .none := Dflts.noKw hD
  obtain ⟨a, vs, ns, rfl, rfl, hobj, hints, hlen⟩ := zsq hn hpre hwl
  refine enter_call (codeAny_mono (call w s₀ s₁ mg mb fa o pm cd doc a vs ns G Y ho (fd_plain hd) hcd hmg hobj hints hlen hg) fun r s' hq => ?_)
  obtain ⟨rfl, h2, h3, h4⟩ := hq
  exact ⟨.inl ⟨.bool true, .bool true, [], rfl, fun _ => rfl, .bool true, zsy l _, fun _ => ⟨List.Pairwise.nil, fun _ hm => (nomatch hm)⟩⟩, h2, h3, h4⟩
section
variable {prog : Program} {w : World} {A : Around} {E : Value -> Shared -> Prop} {s : Shared} {K : Frag}
end
end Att
namespace L2
open PySem PySem.Spec PyProof.Rows
theorem zmx : ∀ {vs : List Value} {ns : List Int}, IntsAre vs ns -> Vals (ns.map V.int) vs
  | _, _, .nil => .nil
  | _, _, .cons n t h => .cons ⟨t, rfl⟩ (zmx h)
def Only (H : Hp) : Prop := ∀ b, H b = none \/ ∃ o xs, H b = some (.frz o (.lst xs))
theorem zvn {P : Program} {w : World} {K : PySem.W.Frag} {mg mb : Str -> Option Value} {CX : CXT} {k : Nat} {fa a : Addr} {fd : FuncData} {x : Str} {sp : Sp} {s₁ : Shared} {vs : List Value} {ns : List Int}
    (KX : K.In s₁.heap) (hns : s₁.heap.Ns mainGlobals mg) (hb : s₁.heap.Ns builtinsNs mb) (hbb : ∀ x : Str, x ≠ "__name__" -> mb x = bootBuiltins x) (hlim : s₁.heap.NoLimit) (hg : s₁.gens = #[])
    (ha : s₁.heap.get? a = some { cls := .type "list", data := .seq vs.toArray }) (hi : IntsAre vs ns) (hl : ns.length ≤ sizeLine) (hr : zbk k callerA)
    (F : ∀ base : Heap, K.In base -> base.Ns mainGlobals mg -> zg4 P w K mg base CX k fa fd [x] sp) (hbind : ∀ (s : Shared) (u : Value), BindsTo s fd ⟨[u], []⟩ [(x, u)])
    (hsp : ∀ H : Hp, Only H -> SqL K H a (ns.map V.int) -> sp [.ref a] H (fun v _ => v = .bl true) fun _ _ _ => False)
    (hCX : ∀ H e s', CX [] H s₁ (fun _ _ _ => False) e s' -> False) :
    codeAny (model P w) callerA (.call (.ref fa) ⟨[.ref a], []⟩) (fun r s' => r = .ok (.ret (.bool true)) /\ OldK s₁.heap s'.heap /\ s'.os = s₁.os /\ AllBare s'.gens) s₁ := by
  have rv := zmx hi
  have lenV := hi.length
  have core : ∀ H : Hp, Only H -> SqL K H a (ns.map V.int) -> HOk P w H s₁.heap -> (∀ b, H b ≠ none -> b = a) -> (H a ≠ none -> K.lookup a = none) ->
      codeAny (model P w) callerA (.call (.ref fa) ⟨[.ref a], []⟩) (fun r s' => r = .ok (.ret (.bool true)) /\ OldK s₁.heap s'.heap /\ s'.os = s₁.os /\ AllBare s'.gens) s₁ := by
    intro H hO hS hok hA hK
    have base_of : ∀ {b : Addr} {o : Obj}, s₁.heap.get? b = some o -> H b = none -> (zit s₁.heap H).get? b = some o := fun e n => zvq e n
    have noA : ∀ {b : Addr} {o : Obj} {es : Array DictEntry} {ep : Nat}, s₁.heap.get? b = some o -> o.data = .dict es ep -> H b = none := fun {b o es ep} e d => by
      cases q : H b with
      | none => rfl
      | some u =>
        have e' : b = a := hA b (by rw [q]; simp)
        subst e'
        rw [ha] at e; cases e
        have d' : Data.seq vs.toArray _ = Data.dict es ep := d
        cases d'
    have nsK : ∀ {b : Addr} {m : Str -> Option Value}, s₁.heap.Ns b m -> (zit s₁.heap H).Ns b m := fun {b m} ⟨o, es, ep, e, d, r⟩ => ⟨o, es, ep, base_of e (noA e d), d, r⟩
    have hKb : K.In (zit s₁.heap H) := fun b o e => base_of (KX b o e) (by
      cases q : H b with
      | none => rfl
      | some u =>
        have e' : b = a := hA b (by rw [q]; simp)
        subst e'
        rw [hK (by rw [q]; simp)] at e; cases e)
    have hM : Mod K mg (zit s₁.heap H) := ⟨hKb, nsK hns, ⟨mb, nsK hb, hbb⟩, let ⟨mc, h1, h2⟩ := hlim; ⟨mc, nsK h1, h2⟩⟩
    have e0 : zkr P w K mg (zit s₁.heap H) callerA [] s₁ H := ⟨rfl, hM, fun b o e => zx6 e, Nat.le_of_eq (ztt _ _), trivial, fun b hb => absurd (show b ∈ ([] : List Addr) from hb) (by simp), hok, .of_eq hg⟩
    refine codeAny_mono ((F _ hKb (nsK hns)).run callerA [] s₁ H ⟨[.ref a], []⟩ [.ref a] [.ref a] _ _ hr e0 (hbind s₁ (.ref a)) (.cons rfl .nil) (hsp H hO hS)) fun r s' h => ?_
    cases r with
    | error e => exact (hCX H e s' h).elim
    | ok fl =>
      cases fl with
      | next => exact False.elim h
      | brk => exact False.elim h
      | cont => exact False.elim h
      | ret u =>
        obtain ⟨v, H', os, bare, un, hok', r', q⟩ := h
        have q' : v = .bl true := q
        subst q'
        obtain rfl : u = Value.bool true := r'
        refine ⟨rfl, OldK.of_keep fun b o e => ?_, os, bare⟩
        cases q : H b with
        | none => exact un.keep b o e q (by intro z; exact absurd (show b ∈ ([] : List Addr) from z) (by simp)) (by simp)
        | some u =>
          rcases hO b with z | ⟨ob, xs, z⟩
          · rw [q] at z; cases z
          · have z2 := un.frzs b ob _ z
            obtain ⟨e1, _⟩ := hok b _ z
            obtain ⟨e2, _⟩ := hok' b _ z2
            rw [e] at e1; cases e1
            exact e2
  cases hk : K.lookup a with
  | some o =>
    have e := KX a o hk
    rw [ha] at e
    cases e
    refine core (fun _ => none) (fun _ => .inl rfl) (.inr ⟨_, vs.toArray, _, hk, rfl, rfl, rfl, by rw [List.size_toArray, lenV]; exact hl, by simpa using rv⟩) (fun b u z => by have z' : (none : Option HO) = some u := z; cases z') (fun b z => absurd rfl z) fun z => absurd rfl z
  | none =>
    refine core (fun b => if b = a then some (.frz { cls := .type "list", data := .seq vs.toArray } (.lst (ns.map V.int))) else none) (fun b => ?_) (.inl (.inr ⟨{ cls := .type "list", data := .seq vs.toArray }, if_pos rfl⟩)) (fun b u z => ?_) (fun b z => ?_) fun _ => hk
    · by_cases hb : b = a
      · exact .inr ⟨_, _, if_pos hb⟩
      · exact .inl (if_neg hb)
    · by_cases hb : b = a
      · have z' := (if_pos hb).symm.trans z
        cases z'
        subst hb
        exact ⟨ha, by rw [List.length_map]; exact hl, vs, _, rv, ha⟩
      · have z' := (if_neg hb).symm.trans z
        cases z'
    · by_cases hb : b = a
      · exact hb
      · exact absurd (if_neg hb) z
end L2
namespace L2
open PySem PySem.Spec PyProof.Rows
theorem zwy {l : PySem.W.OpenLaw} {n k : Nat} {q : Program} {loose : List Str} {XP : (Str -> Option Value) -> Heap -> Prop} {YP : World -> Heap -> Prop} {d : DefRec} {K : Params -> PySem.W.Frag} {CX : World -> CXT} {sp : World -> Sp} {x : Str}
    (hn : l.most = some n) (hn2 : n ≤ sizeLine) (hdf : d.params.defaults = []) (hr : zbk k callerA)
    (hY : ∀ (w : World) (h : Heap), YP w h -> (K w.params).In h)
    (F : ∀ (w : World) (mg : Str -> Option Value) (fa : Addr) (h : Heap), (K w.params).In h -> h.Ns mainGlobals mg -> mg d.name = some (.ref fa) ->
      ∃ fd : FuncData, (∀ (s : Shared) (u : Value), BindsTo s fd ⟨[u], []⟩ [(x, u)]) /\
        ∀ base : Heap, (K w.params).In base -> base.Ns mainGlobals mg -> zg4 l.prog w (K w.params) mg base (CX w) k fa fd [x] (sp w))
    (hsp : ∀ (w : World) (H : Hp) (a : Addr) (ns : List Int), ns.length ≤ n -> Only H -> SqL (K w.params) H a (ns.map V.int) -> sp w [.ref a] H (fun v _ => v = .bl true) fun _ _ _ => False)
    (hCX : ∀ (w : World) (H : Hp) (s : Shared) (e : Value) (s' : Shared), CX w [] H s (fun _ _ _ => False) e s' -> False) :
    PySem.W.WalkO q loose XP YP l.row.toRowW d [] (fun f vs => PySem.call f vs) := by
  refine Att.attach_call hn hdf fun w s₀ s₁ mg mb fa o pm cd doc a vs ns G Y ho hd hcd hmg hobj hints hlen hg => ?_
  have KX := hY w _ Y
  obtain ⟨fd, hb, hF⟩ := F w mg fa _ KX G.T.g hmg
  exact zvn KX G.T.g G.T.b G.T.builtins G.T.nolimit hg hobj hints (Nat.le_trans hlen hn2) hr hF hb (fun H hO hS => hsp w H a ns hlen hO hS) fun H e s' => hCX w H s₁ e s'
theorem zuk {l : PySem.W.OpenLaw} {n k : Nat} {q : Program} {loose : List Str} {XP : (Str -> Option Value) -> Heap -> Prop} {YP : World -> Heap -> Prop} {d : DefRec} {K : Params -> PySem.W.Frag} {CX : CXT} {sp : PySem.W.Frag -> Sp} {x : Str}
    (hn : l.most = some n) (hn2 : n ≤ sizeLine) (hdf : d.params.defaults = []) (hr : zbk k callerA)
    (hY : ∀ (w : World) (h : Heap), YP w h -> (K w.params).In h)
    (F : ∀ (w : World) (mg : Str -> Option Value) (fa : Addr) (h : Heap), (K w.params).In h -> h.Ns mainGlobals mg -> mg d.name = some (.ref fa) ->
      ∃ fd : FuncData, (∀ (s : Shared) (u : Value), BindsTo s fd ⟨[u], []⟩ [(x, u)]) /\
        ∀ base : Heap, (K w.params).In base -> base.Ns mainGlobals mg -> zg4 l.prog w (K w.params) mg base CX k fa fd [x] (sp (K w.params)))
    (hsp : ∀ (K : PySem.W.Frag) (H : Hp) (a : Addr) (ns : List Int), ns.length ≤ n -> Only H -> SqL K H a (ns.map V.int) -> sp K [.ref a] H (fun v _ => v = .bl true) fun _ _ _ => False)
    (hCX : ∀ (H : Hp) (s : Shared) (e : Value) (s' : Shared), CX [] H s (fun _ _ _ => False) e s' -> False) :
    PySem.W.WalkO q loose XP YP l.row.toRowW d [] (fun f vs => PySem.call f vs) :=
  zwy (K := K) (CX := fun _ => CX) (sp := fun w => sp (K w.params)) hn hn2 hdf hr hY F (fun w H a ns h1 h2 h3 => hsp (K w.params) H a ns h1 h2 h3) fun _ H s e s' => hCX H s e s'
end L2
namespace L2
open PySem PySem.Spec PyProof.Rows
def zhc (s : Stmt) : Arguments := match s with
  | .FunctionDef _ a _ _ _ _ _ _ _ _ => a
  | _ => { posonlyargs := [], args := [], vararg := none, kwonlyargs := [], kw_defaults := [], kwarg := none, defaults := [] }
def zbc (s : Stmt) : List Stmt := match s with
  | .FunctionDef _ _ b _ _ _ _ _ _ _ => b
  | _ => []
def zah (s : Stmt) : Scope := match s with
  | .FunctionDef _ _ _ _ _ _ sc _ _ _ => sc
  | _ => { kind := .function, names := [], isGenerator := false, isCoroutine := false }
abbrev CX0 : CXT := fun _ _ _ _ _ _ => False
abbrev E0 : XK := fun _ _ _ => False
theorem pass0 {X : Cx} : Passes CX0 X E0 := fun _ _ _ _ _ _ _ h => h.elim
structure Fun (K : PySem.W.Frag) (x qual : Str) (st : Stmt) (f : Addr) (fd : FuncData) : Prop where
  ex : ∃ (oc : Value) (od : Option Addr) (kV doc pm : Value) (an : Option Addr) (cdv ct : Value) (osl : Array (Option Value)),
    fd = PySem.W.fnOf x qual (zhc st) (zbc st) (zah st) .none kV doc pm an cdv ct /\ K.lookup f = some ⟨oc, od, .func fd, osl⟩ /\ PySem.W.codeIn K cdv qual = true
  kp : PySem.W.keepIn K (.ref f) = true
section
variable {P : Program} {w : World} {K : PySem.W.Frag} {mg : Str -> Option Value} {base : Heap}
theorem Fun.ok {x qual : Str} {st : Stmt} {f : Addr} {fd : FuncData} {N ps : List Str} {k : Nat} {sp : Sp} (F : Fun K x qual st f fd) (S : zbj N ps (zah st)) (len : ∀ vs H Q E, sp vs H Q E -> vs.length = ps.length)
    (hbody : ∀ (cdv : Value) (A : Around) (outer : List Env) (s : Shared) (H : Hp) (vs : List V) (Q : VK) (E : XK), zbk k (A.deeper (envOfC qual (zah st) s.heap.objs.size f cdv)) -> sp vs H Q E ->
      ∃ t, PSs (zca CX0 P w K mg base N qual (zah st) f cdv A outer s H E).nox (zbc st) t /\ t { nx := fun _ H' => Q .non H', rt := Q } (start N vs) H) : zg4 P w K mg base CX0 (k + 1) f fd ps sp := by
  obtain ⟨oc, od, kV, doc, pm, an, cdv, ct, osl, rfl, lk, hcd⟩ := F.ex
  refine fn_of lk hcd S len fun A outer s H vs Q E hr hsp => ?_
  obtain ⟨t, h, q⟩ := hbody cdv A outer s H vs Q E hr hsp
  exact ⟨t, h.nox, q⟩
theorem Fun.binds {x qual : Str} {st : Stmt} {f : Addr} {fd : FuncData} {ps : List Str} (F : Fun K x qual st f fd)
    (h : ∀ (kV doc pm : Value) (an : Option Addr) (cdv ct : Value) (us : List Value), us.length = ps.length -> bindArgs (PySem.W.fnOf x qual (zhc st) (zbc st) (zah st) .none kV doc pm an cdv ct) ⟨us, []⟩ = pure (ps.zip us)) : Binds K fd ps [] := by
  obtain ⟨oc, od, kV, doc, pm, an, cdv, ct, osl, rfl, lk, hcd⟩ := F.ex
  exact .all (h kV doc pm an cdv ct)
theorem fun_mk {x qual : Str} {st : Stmt} {f : Addr} {oc : Value} {od an : Option Addr} {osl : Array (Option Value)} {kV doc pm cdv ct : Value} (l : K.lookup f = some ⟨oc, od, .func (PySem.W.fnOf x qual (zhc st) (zbc st) (zah st) .none kV doc pm an cdv ct), osl⟩)
    (c : PySem.W.codeIn K cdv qual = true) (k : PySem.W.keepIn K (.ref f) = true) : Fun K x qual st f (PySem.W.fnOf x qual (zhc st) (zbc st) (zah st) .none kV doc pm an cdv ct) := ⟨⟨oc, od, kV, doc, pm, an, cdv, ct, osl, rfl, l, c⟩, k⟩
end
section
variable {X : Cx}
theorem pv (i : Nat) {x : Str} {pos : Pos} (hN : X.N[i]? = some x := by rfl) (hv : Vis X.env.scope x := by first | exact Or.inl rfl | exact Or.inr (Or.inl rfl) | exact Or.inr (Or.inr rfl)) (hd : (x == ("__debug__" : Str)) = false := by decide)
    (hcd : (x == ("__classdict__" : Str)) = false := by decide) : PE X (.Name x pos) (tVar i) := zox hN hv hd hcd
end
def zh9 (H H' : Hp) : Prop := ∀ b o, H b = some o -> H' b = some o
theorem zh9.refl (H : Hp) : zh9 H H := fun _ _ h => h
theorem zh9.trans {H H1 H2 : Hp} (a : zh9 H H1) (b : zh9 H1 H2) : zh9 H H2 := fun c o h => b c o (a c o h)
theorem zh9.free {H H' : Hp} (e : zh9 H H') {l : Addr} (h : H' l = Option.none) : H l = Option.none := by
  cases q : H l with
  | none => rfl
  | some o =>
    rw [e l o q] at h
    cases h
theorem zh9.seq {K : PySem.W.Frag} {H H' : Hp} {a : Addr} {xs : List V} (e : zh9 H H') (h : SqL K H a xs) : SqL K H' a xs := by
  rcases h with (h | ⟨o, h⟩) | h
  · exact .inl (.inl (e _ _ h))
  · exact .inl (.inr ⟨o, e _ _ h⟩)
  · exact .inr h
end L2
namespace LD
open PySem
inductive D where
  | non | bl (b : Bool) | int (i : Int) | str (x : Str) | tup (ds : List D) | lst (ds : List D) | frz (ds : List D) | cell (k : Nat) | fn (f : Nat)
  deriving Inhabited
abbrev Mem := List (List D)
abbrev Env := List (Option D)
inductive Res (α : Type) where
  | ok (a : α) (M : Mem)
  | err (c : Str) (d : D) (M : Mem)
  | bad
def Res.bind {α β : Type} (r : Res α) (f : α -> Mem -> Res β) : Res β := match r with
  | .ok a M => f a M
  | .err c d M => .err c d M
  | .bad => .bad
@[simp] theorem Res.bind_ok {α β : Type} (a : α) (M : Mem) (f : α -> Mem -> Res β) : (Res.ok a M).bind f = f a M := rfl
@[simp] theorem Res.bind_err {α β : Type} (c : Str) (d : D) (M : Mem) (f : α -> Mem -> Res β) : (Res.err c d M : Res α).bind f = .err c d M := rfl
@[simp] theorem Res.bind_bad {α β : Type} (f : α -> Mem -> Res β) : (Res.bad : Res α).bind f = .bad := rfl
inductive Bin where
  | add | sub | mul | fdiv | mod | pow
  deriving DecidableEq
inductive Cmp where
  | eq | ne | lt | le | gt | ge | isN | notN | isin | notin
  deriving DecidableEq
inductive Ty where
  | int | bool | str | tuple | list | own (c : Str)
  deriving DecidableEq
inductive Blt where
  | len | tuple | list (m : Bool) | listR (m : Bool) | all | sum | repr
  deriving DecidableEq
inductive Tgt where
  | one (i : Nat)
  | tup (l : List Nat)
def sz : Nat := 16777216
def zb1 (m : Bool) (ds : List D) (M : Mem) : Res D := if ds.length ≤ sz then (if m then .ok (.cell M.length) (M ++ [ds]) else .ok (.lst ds) M) else .bad
def zir (ds : List D) (M : Mem) : Res D := if ds.length ≤ sz then .ok (.tup ds) M else .bad
def zcx (M : Mem) : D -> Option (List D)
  | .lst ds => some ds
  | .tup ds => some ds
  | .frz ds => some ds
  | .cell k => M[k]?
  | _ => none
def rdD (M : Mem) : D -> Option (List D)
  | .lst ds => some ds
  | .frz ds => some ds
  | .cell k => M[k]?
  | _ => none
def zhr (M : Mem) : D -> Option (List D)
  | .lst ds => some ds
  | .cell k => M[k]?
  | _ => none
def zav : Nat -> D -> Bool
  | _, .non => true
  | _, .bl _ => true
  | _, .int _ => true
  | _, .str x => x.cps.all (· < 0x110000)
  | n + 1, .tup ds => ds.all (zav n)
  | n + 1, .lst ds => ds.all (zav n)
  | 0, .tup _ => false
  | 0, .lst _ => false
  | _, .frz _ => false
  | _, .cell _ => false
  | _, .fn _ => false
mutual
def zbm : D -> D -> Bool
  | .non, .non => true
  | .bl a, .bl b => a == b
  | .bl a, .int b => (if a then 1 else 0) == b
  | .int a, .bl b => a == (if b then 1 else 0)
  | .int a, .int b => a == b
  | .str a, .str b => a == b
  | .tup a, .tup b => zjm a b
  | .lst a, .lst b => zjm a b
  | _, _ => false
def zjm : List D -> List D -> Bool
  | [], [] => true
  | a :: r, b :: t => zbm a b && zjm r t
  | [], _ :: _ => false
  | _ :: _, [] => false
end
def eqD (a b : D) : Option Bool := if zav 64 a && zav 64 b then some (zbm a b) else none
def view (M : Mem) : D -> D
  | .cell k => match M[k]? with
    | some ds => .lst ds
    | none => .cell k
  | .frz ds => .lst ds
  | d => d
def zd3 : Nat -> Mem -> D -> D
  | 0, _, d => d
  | n + 1, M, .cell k => match M[k]? with
    | some ds => .lst (ds.map (zd3 n M))
    | none => .cell k
  | n + 1, M, .frz ds => .lst (ds.map (zd3 n M))
  | n + 1, M, .lst ds => .lst (ds.map (zd3 n M))
  | n + 1, M, .tup ds => .tup (ds.map (zd3 n M))
  | _ + 1, _, d => d
def eqM (M : Mem) (a b : D) : Option Bool := match eqD (view M a) (view M b) with
  | some r => some r
  | none => eqD (zd3 64 M a) (zd3 64 M b)
def zh2 (M : Mem) : D -> Option Bool
  | .non => some false
  | .bl b => some b
  | .int i => some (i != 0)
  | .str x => if x.cps.size ≤ sz then some (x.cps.size != 0) else none
  | .tup ds => some (!ds.isEmpty)
  | .lst ds => some (!ds.isEmpty)
  | .frz ds => some (!ds.isEmpty)
  | .cell k => (M[k]?).map fun ds => !ds.isEmpty
  | .fn _ => none
def ixN (n : Nat) (i : Int) : Option Nat := if 0 ≤ i then (if i < n then some i.toNat else none) else if -(n : Int) ≤ i then some (i + n).toNat else none
def ze2 (m : Bool) (o : Bin) (a b : D) (M : Mem) : Res D := match o, a, b with
  | .add, .int i, .int j => .ok (.int (i + j)) M
  | .add, .str x, .str y => if x.cps.size + y.cps.size ≤ sz then .ok (.str ⟨x.cps ++ y.cps⟩) M else .bad
  | .add, .tup x, .tup y => zir (x ++ y) M
  | .add, a, b => match zhr M a, zhr M b with
    | some x, some y => zb1 m (x ++ y) M
    | _, _ => .bad
  | .sub, .int i, .int j => .ok (.int (i - j)) M
  | .mul, .int i, .int j => if (-(2 ^ 64) < i /\ i < 2 ^ 64) \/ (-(2 ^ 64) < j /\ j < 2 ^ 64) then .ok (.int (i * j)) M else .bad
  | .mul, .tup x, .int j => if x.length * j.toNat ≤ sz /\ -(2 ^ 63) ≤ j /\ j < 2 ^ 63 then .ok (.tup (List.replicate j.toNat x).flatten) M else .bad
  | .mul, a, .int j => match zhr M a with
    | some x => if x.length * j.toNat ≤ sz /\ -(2 ^ 63) ≤ j /\ j < 2 ^ 63 then zb1 m (List.replicate j.toNat x).flatten M else .bad
    | none => .bad
  | .fdiv, .int i, .int j => if 0 < j /\ j < 1073741824 then .ok (.int (i / j)) M else .bad
  | .mod, .int i, .int j => if 0 < j then .ok (.int (i % j)) M else .bad
  | .pow, .int i, .int j => if 0 ≤ j /\ j ≤ 1000000 /\ i.natAbs < 2 ^ 64 then .ok (.int (i ^ j.toNat)) M else .bad
  | _, _, _ => .bad
def inL (x : D) (ds : List D) : Option Bool := if zav 64 x && ds.all (zav 63) then some (ds.any fun y => zbm y x) else none
def zhh (x y : Str) : Bool := !(Builtin.Str.occurrences y x 0 y.length 1).isEmpty
def zis : D -> Bool
  | .non => true
  | _ => false
def zb4 (o : Cmp) (a b : D) (M : Mem) : Option Bool := match o, a, b with
  | .eq, a, b => eqM M a b
  | .ne, a, b => (eqM M a b).map (!·)
  | .lt, .int i, .int j => some (decide (i < j))
  | .le, .int i, .int j => some (decide (i ≤ j))
  | .gt, .int i, .int j => some (decide (j < i))
  | .ge, .int i, .int j => some (decide (j ≤ i))
  | .isN, a, .non => some (zis a)
  | .notN, a, .non => some (!zis a)
  | .isin, .str x, .str y => some (zhh x y)
  | .notin, .str x, .str y => some (!zhh x y)
  | .isin, a, b => (zcx M b).bind (inL (view M a))
  | .notin, a, b => ((zcx M b).bind (inL (view M a))).map (!·)
  | _, _, _ => none
def zgp (a i : D) (M : Mem) : Option D := match a, i with
  | .str x, .int i => if x.cps.size ≤ sz then (ixN x.cps.size i).bind fun j => (x.cps[j]?).map fun c => .str ⟨#[c]⟩ else none
  | a, .int i => (zcx M a).bind fun ds => (ixN ds.length i).bind fun j => ds[j]?
  | _, _ => none
def sIx (n d : Nat) : D -> Option Nat
  | .non => some d
  | .int v => some (if v < 0 then (v + (n : Int)).toNat else min v.toNat n)
  | _ => none
def zcu : Bool -> D -> Bool
  | true, .int _ => true
  | false, .non => true
  | _, _ => false
def cut {α : Type} (xs : List α) (lo hi : Nat) : List α := (xs.drop lo).take (hi - lo)
def zgn (m : Bool) (a lo hi : D) (M : Mem) : Res D := match a with
  | .tup xs => match sIx xs.length 0 lo, sIx xs.length xs.length hi with
    | some l, some h => .ok (.tup (cut xs l h)) M
    | _, _ => .bad
  | a => match rdD M a with
    | some xs => match sIx xs.length 0 lo, sIx xs.length xs.length hi with
      | some l, some h => zb1 m (cut xs l h) M
      | _, _ => .bad
    | none => .bad
def zbo (t : Ty) : D -> Option Bool
  | .non => some false
  | .bl _ => some (t == .bool || t == .int)
  | .int _ => some (t == .int)
  | .str _ => some (t == .str)
  | .tup _ => some (t == .tuple)
  | .lst _ => some (t == .list)
  | .frz _ => some (t == .list)
  | .cell _ => some (t == .list)
  | .fn _ => none
def boolsOf : List D -> Option (List Bool)
  | [] => some []
  | .bl b :: r => (boolsOf r).map (b :: ·)
  | _ => none
def intsOf : List D -> Option (List Int)
  | [] => some []
  | .int b :: r => (intsOf r).map (b :: ·)
  | _ => none
def zfk (f : Blt) (ds : List D) (M : Mem) : Res D := match f, ds with
  | .len, [.str x] => if x.cps.size ≤ sz then .ok (.int x.cps.size) M else .bad
  | .len, [d] => match zcx M d with
    | some xs => .ok (.int xs.length) M
    | none => .bad
  | .tuple, [.tup xs] => .ok (.tup xs) M
  | .tuple, [d] => match rdD M d with
    | some xs => .ok (.tup xs) M
    | none => .bad
  | .list m, [d] => match zcx M d with
    | some xs => zb1 m xs M
    | none => .bad
  | .listR m, [.int n] => if n < 2 ^ 20 then zb1 m ((List.range n.toNat).map fun (k : Nat) => D.int (k : Int)) M else .bad
  | .all, [d] => match rdD M d with
    | some xs => match boolsOf xs with
      | some bs => .ok (.bl (bs.all id)) M
      | none => .bad
    | none => .bad
  | .sum, [d] => match rdD M d with
    | some xs => match intsOf xs with
      | some is => .ok (.int is.sum) M
      | none => .bad
    | none => .bad
  | _, _ => .bad
def zfy : List Nat -> List D -> Env -> Option Env
  | [], [], ρ => some ρ
  | i :: l, d :: ds, ρ => zfy l ds (ρ.set i (some d))
  | _, _, _ => none
def zdt (t : Tgt) (d : D) (ρ : Env) : Option Env := match t, d with
  | .one i, d => some (ρ.set i (some d))
  | .tup l, .tup ds => zfy l ds ρ
  | .tup _, _ => none
abbrev Walk := Mem -> Option (List D)
def ze1 : Nat -> List D -> List D
  | _, [] => []
  | k, d :: r => .tup [.int k, d] :: ze1 (k + 1) r
def zhz : List D -> List D -> List D
  | a :: r, b :: t => .tup [a, b] :: zhz r t
  | _, _ => []
def zip3L : List D -> List D -> List D -> List D
  | a :: r, b :: t, c :: q => .tup [a, b, c] :: zip3L r t q
  | _, _, _ => []
def eachR {α : Type} (f : α -> D -> Mem -> Res α) : List D -> α -> Mem -> Res α
  | [], a, M => .ok a M
  | d :: r, a, M => (f a d M).bind (eachR f r)
def zez {α : Type} (f : α -> D -> Mem -> Res α) (w : Walk) : Nat -> Nat -> α -> Mem -> Res α
  | 0, _, _, _ => .bad
  | n + 1, i, a, M => match w M with
    | none => .bad
    | some ds => match ds[i]? with
      | none => .ok a M
      | some d => (f a d M).bind (zez f w n (i + 1))
def zfc {α : Type} (f : α -> D -> Mem -> Res α) (w : Walk) (a : α) (M : Mem) : Res α := zez f w (((w M).getD []).length + 1) 0 a M
def ofO {α : Type} (M : Mem) : Option α -> Res α
  | some a => .ok a M
  | none => .bad
@[simp] theorem zvf {α : Type} (M : Mem) (a : α) : ofO M (some a) = .ok a M := rfl
@[simp] theorem ofO_none {α : Type} (M : Mem) : (ofO M none : Res α) = .bad := rfl
inductive Fl where
  | next (ρ : Env)
  | ret (d : D)
end LD
namespace LD
open PySem PySem.Spec PyProof.Rows L2
structure Mu where
  pub : Nat -> Option Addr
  priv : List Addr
def Mu.Mt (μ : Mu) (a : Addr) : Prop := (∃ k, μ.pub k = some a) \/ a ∈ μ.priv
abbrev Fa := Nat -> Option Addr
def KL (K : PySem.W.Frag) (a : Addr) (xs : List V) : Prop :=
  ∃ (o : Obj) (its : Array Value) (n : Nat), K.lookup a = some o /\ o.cls = .type "list" /\ o.dict = none /\ o.data = .seq its n /\ its.size ≤ sizeLine /\ Vals xs its.toList
section
variable (fa : Fa) (K : PySem.W.Frag) (μ : Mu) (H : Hp)
mutual
def Rep : D -> V -> Prop
  | .non, v => v = .non
  | .bl b, v => v = .bl b
  | .int i, v => v = .int i
  | .str x, v => v = .str x
  | .tup ds, v => ∃ a vs, v = .ref a /\ SqT K H a vs /\ za0 ds vs
  | .lst ds, v => ∃ a vs, v = .ref a /\ (H a = some (.lst vs) /\ ¬ μ.Mt a) /\ za0 ds vs
  | .frz ds, v => ∃ a vs, v = .ref a /\ ((∃ ob, H a = some (.frz ob (.lst vs))) \/ KL K a vs) /\ za0 ds vs
  | .cell k, v => ∃ a, v = .ref a /\ μ.pub k = some a
  | .fn f, v => ∃ a, v = .ref a /\ fa f = some a
def za0 : List D -> List V -> Prop
  | [], vs => vs = []
  | d :: ds, vs => ∃ v r, vs = v :: r /\ Rep d v /\ za0 ds r
end
end
structure ExtW (μ : Mu) (H : Hp) (μ' : Mu) (H' : Hp) : Prop where
  mu : ∀ k a, μ.pub k = some a -> μ'.pub k = some a
  tups : ∀ a vs, Rd H a (.tup vs) -> Rd H' a (.tup vs)
  lsts : ∀ a vs, H a = some (.lst vs) -> ¬ μ.Mt a -> H' a = some (.lst vs) /\ ¬ μ'.Mt a
  frzs : ∀ a ob u, H a = some (.frz ob u) -> H' a = some (.frz ob u)
structure Ext (μ : Mu) (H : Hp) (μ' : Mu) (H' : Hp) : Prop extends ExtW μ H μ' H' where
  pr : μ'.priv = μ.priv
  pk : ∀ a ∈ μ.priv, H' a = H a
theorem ExtW.refl {μ : Mu} {H : Hp} : ExtW μ H μ H := ⟨fun _ _ h => h, fun _ _ h => h, fun _ _ h n => ⟨h, n⟩, fun _ _ _ h => h⟩
theorem ExtW.trans {μ μ1 μ2 : Mu} {H H1 H2 : Hp} (a : ExtW μ H μ1 H1) (b : ExtW μ1 H1 μ2 H2) : ExtW μ H μ2 H2 :=
  ⟨fun k x h => b.mu k x (a.mu k x h), fun x vs h => b.tups x vs (a.tups x vs h), fun x vs h n => b.lsts x vs (a.lsts x vs h n).1 (a.lsts x vs h n).2, fun x ob u h => b.frzs x ob u (a.frzs x ob u h)⟩
theorem Ext.refl {μ : Mu} {H : Hp} : Ext μ H μ H := ⟨.refl, rfl, fun _ _ => rfl⟩
theorem Ext.trans {μ μ1 μ2 : Mu} {H H1 H2 : Hp} (a : Ext μ H μ1 H1) (b : Ext μ1 H1 μ2 H2) : Ext μ H μ2 H2 :=
  ⟨a.toExtW.trans b.toExtW, b.pr.trans a.pr, fun x hx => (b.pk x (by rw [a.pr]; exact hx)).trans (a.pk x hx)⟩
section
variable {fa : Fa} {K : PySem.W.Frag} {μ μ' : Mu} {H H' : Hp}
theorem ExtW.sqT {a : Addr} {vs : List V} (x : ExtW μ H μ' H') (h : SqT K H a vs) : SqT K H' a vs := h.elim (fun z => .inl (x.tups a vs z)) .inr
mutual
theorem Rep.extW (x : ExtW μ H μ' H') : ∀ {d : D} {v : V}, Rep fa K μ H d v -> Rep fa K μ' H' d v
  | .non, v, h => h
  | .bl b, v, h => h
  | .int i, v, h => h
  | .str y, v, h => h
  | .tup ds, v, h => by
    obtain ⟨a, vs, e, s, r⟩ := h
    exact ⟨a, vs, e, x.sqT s, za0.extW x r⟩
  | .lst ds, v, h => by
    obtain ⟨a, vs, e, s, r⟩ := h
    exact ⟨a, vs, e, x.lsts a vs s.1 s.2, za0.extW x r⟩
  | .frz ds, v, h => by
    obtain ⟨a, vs, e, s, r⟩ := h
    exact ⟨a, vs, e, s.elim (fun ⟨ob, z⟩ => .inl ⟨ob, x.frzs a ob _ z⟩) .inr, za0.extW x r⟩
  | .cell k, v, h => by
    obtain ⟨a, e, m⟩ := h
    exact ⟨a, e, x.mu k a m⟩
  | .fn f, v, h => h
theorem za0.extW (x : ExtW μ H μ' H') : ∀ {ds : List D} {vs : List V}, za0 fa K μ H ds vs -> za0 fa K μ' H' ds vs
  | [], vs, h => h
  | d :: ds, vs, h => by
    obtain ⟨v, r, e, p, q⟩ := h
    exact ⟨v, r, e, Rep.extW x p, za0.extW x q⟩
end
theorem Rep.ext (x : Ext μ H μ' H') {d : D} {v : V} (h : Rep fa K μ H d v) : Rep fa K μ' H' d v := Rep.extW x.toExtW h
theorem za0.ext (x : Ext μ H μ' H') {d : List D} {v : List V} (h : za0 fa K μ H d v) : za0 fa K μ' H' d v := za0.extW x.toExtW h
theorem za0.length : ∀ {ds : List D} {vs : List V}, za0 fa K μ H ds vs -> vs.length = ds.length
  | [], vs, h => by
    have h : vs = [] := h
    subst h; rfl
  | d :: ds, vs, h => by
    obtain ⟨v, r, e, p, q⟩ := h
    subst e
    simp [za0.length q]
theorem za0.get : ∀ {ds : List D} {vs : List V} {i : Nat} {d : D}, za0 fa K μ H ds vs -> ds[i]? = some d -> ∃ v, vs[i]? = some v /\ Rep fa K μ H d v
  | [], _, _, _, _, e => by simp at e
  | d :: ds, vs, 0, d', h, e => by
    obtain ⟨v, r, rfl, p, q⟩ := h
    simp at e; subst e
    exact ⟨v, rfl, p⟩
  | d :: ds, vs, i + 1, d', h, e => by
    obtain ⟨v, r, rfl, p, q⟩ := h
    obtain ⟨u, h1, h2⟩ := za0.get (i := i) q (by simpa using e)
    exact ⟨u, by simpa using h1, h2⟩
theorem za0.append : ∀ {ds es : List D} {vs ws : List V}, za0 fa K μ H ds vs -> za0 fa K μ H es ws -> za0 fa K μ H (ds ++ es) (vs ++ ws)
  | [], _, vs, _, h, g => by
    have h : vs = [] := h
    subst h; exact g
  | d :: ds, es, vs, ws, h, g => by
    obtain ⟨v, r, rfl, p, q⟩ := h
    exact ⟨v, r ++ ws, rfl, p, za0.append q g⟩
theorem za0.one {d : D} {v : V} (h : Rep fa K μ H d v) : za0 fa K μ H [d] [v] := ⟨v, [], rfl, h, rfl⟩
theorem za0.drop : ∀ (n : Nat) {ds : List D} {vs : List V}, za0 fa K μ H ds vs -> za0 fa K μ H (ds.drop n) (vs.drop n)
  | 0, _, _, h => h
  | n + 1, [], vs, h => by
    have h : vs = [] := h
    subst h; exact rfl
  | n + 1, d :: ds, vs, h => by
    obtain ⟨v, r, rfl, p, q⟩ := h
    exact za0.drop n q
theorem za0.take : ∀ (n : Nat) {ds : List D} {vs : List V}, za0 fa K μ H ds vs -> za0 fa K μ H (ds.take n) (vs.take n)
  | 0, _, _, h => rfl
  | n + 1, [], vs, h => by
    have h : vs = [] := h
    subst h; exact rfl
  | n + 1, d :: ds, vs, h => by
    obtain ⟨v, r, rfl, p, q⟩ := h
    exact ⟨v, r.take n, rfl, p, za0.take n q⟩
theorem za0.set : ∀ (n : Nat) {ds : List D} {vs : List V} {d : D} {v : V}, za0 fa K μ H ds vs -> Rep fa K μ H d v -> za0 fa K μ H (ds.set n d) (vs.set n v)
  | _, [], vs, _, _, h, _ => by
    have h : vs = [] := h
    subst h; exact rfl
  | 0, d :: ds, vs, _, v', h, g => by
    obtain ⟨v, r, rfl, p, q⟩ := h
    exact ⟨v', r, rfl, g, q⟩
  | n + 1, d :: ds, vs, _, v', h, g => by
    obtain ⟨v, r, rfl, p, q⟩ := h
    exact ⟨v, r.set n v', rfl, p, za0.set n q g⟩
theorem za0.reverse : ∀ {ds : List D} {vs : List V}, za0 fa K μ H ds vs -> za0 fa K μ H ds.reverse vs.reverse
  | [], vs, h => by
    have h : vs = [] := h
    subst h; exact rfl
  | d :: ds, vs, h => by
    obtain ⟨v, r, rfl, p, q⟩ := h
    rw [List.reverse_cons, List.reverse_cons]
    exact za0.append (za0.reverse q) (.one p)
theorem za0.rep : ∀ (n : Nat) {ds : List D} {vs : List V}, za0 fa K μ H ds vs -> za0 fa K μ H (List.replicate n ds).flatten (List.replicate n vs).flatten
  | 0, _, _, _ => rfl
  | n + 1, ds, vs, h => by
    rw [List.replicate_succ, List.replicate_succ, List.flatten_cons, List.flatten_cons]
    exact h.append (za0.rep n h)
theorem za0.ints : ∀ (ns : List Int), za0 fa K μ H (ns.map D.int) (ns.map V.int)
  | [] => rfl
  | n :: ns => ⟨.int n, ns.map V.int, rfl, rfl, za0.ints ns⟩
end
structure RelM (fa : Fa) (K : PySem.W.Frag) (μ : Mu) (H : Hp) (M : Mem) : Prop where
  at' : ∀ (k : Nat) (ds : List D), M[k]? = some ds -> ∃ a vs, μ.pub k = some a /\ H a = some (.lst vs) /\ za0 fa K μ H ds vs
  out : ∀ (k : Nat), M.length ≤ k -> μ.pub k = none
  inj : ∀ j k a, μ.pub j = some a -> μ.pub k = some a -> j = k
  pv : ∀ a ∈ μ.priv, (∃ vs, H a = some (.lst vs)) /\ ∀ k, μ.pub k ≠ some a
structure zbr (fa : Fa) (K : PySem.W.Frag) (μ : Mu) (H : Hp) (σ : L2.St) (ρ : Env) : Prop where
  len : σ.length = ρ.length
  at' : ∀ (i : Nat) (d : D), ρ[i]? = some (some d) -> ∃ v, σ[i]? = some (some v) /\ Rep fa K μ H d v
section
variable {fa : Fa} {K : PySem.W.Frag} {μ μ' : Mu} {H H' : Hp} {σ : L2.St} {ρ : Env} {M : Mem}
theorem zbr.ext (h : zbr fa K μ H σ ρ) (x : Ext μ H μ' H') : zbr fa K μ' H' σ ρ :=
  ⟨h.len, fun i d e => let ⟨v, h1, h2⟩ := h.at' i d e; ⟨v, h1, h2.ext x⟩⟩
theorem zbr.set (h : zbr fa K μ H σ ρ) {i : Nat} {d : D} {v : V} (r : Rep fa K μ H d v) : zbr fa K μ H (σ.set i (some v)) (ρ.set i (some d)) := by
  refine ⟨by simp [h.len], fun j d' e => ?_⟩
  by_cases hj : j = i
  · subst hj
    have hl : j < ρ.length := by
      have := (List.getElem?_eq_some_iff.mp e).1
      simpa using this
    rw [List.getElem?_set_self hl] at e
    cases e
    exact ⟨v, List.getElem?_set_self (by rw [h.len]; exact hl), r⟩
  · rw [List.getElem?_set_ne (Ne.symm hj)] at e
    obtain ⟨u, h1, h2⟩ := h.at' j d' e
    exact ⟨u, by rw [List.getElem?_set_ne (Ne.symm hj)]; exact h1, h2⟩
theorem zbr.extW (h : zbr fa K μ H σ ρ) (x : ExtW μ H μ' H') : zbr fa K μ' H' σ ρ :=
  ⟨h.len, fun i d e => let ⟨v, h1, h2⟩ := h.at' i d e; ⟨v, h1, h2.extW x⟩⟩
theorem RelM.mu_lt (h : RelM fa K μ H M) {k : Nat} {a : Addr} (e : μ.pub k = some a) : ∃ ds vs, M[k]? = some ds /\ H a = some (.lst vs) /\ za0 fa K μ H ds vs := by
  by_cases hk : k < M.length
  · obtain ⟨a', vs, h1, h2, h3⟩ := h.at' k M[k] (by simp [hk])
    rw [e] at h1; cases h1
    exact ⟨_, vs, by simp [hk], h2, h3⟩
  · rw [h.out k (by omega)] at e; cases e
theorem RelM.fresh (h : RelM fa K μ H M) {p : Addr} (hp : H p = none) : ¬ μ.Mt p := fun e => by
  rcases e with ⟨k, e⟩ | e
  · obtain ⟨ds, vs, _, h2, _⟩ := h.mu_lt e
    rw [hp] at h2; cases h2
  · obtain ⟨⟨vs, h2⟩, _⟩ := h.pv p e
    rw [hp] at h2; cases h2
theorem RelM.pne (h : RelM fa K μ H M) {p a : Addr} (hp : H p = none) (ha : a ∈ μ.priv) : a ≠ p := fun e => by
  obtain ⟨⟨vs, h2⟩, _⟩ := h.pv a ha
  rw [e, hp] at h2; cases h2
theorem Ext.alloc {p : Addr} {o : HO} (h : RelM fa K μ H M) (hp : H p = none) : Ext μ H μ (upd H p o) := by
  have rd : ∀ a u, Rd H a u -> Rd (upd H p o) a u := fun a u h => by
    rcases h with h | ⟨ob, h⟩
    · exact .inl (by rw [za6 (zbl h hp)]; exact h)
    · exact .inr ⟨ob, by rw [za6 (zbl h hp)]; exact h⟩
  exact ⟨⟨fun _ _ h => h, fun a vs h => rd a _ h, fun a vs h n => ⟨by rw [za6 (zbl h hp)]; exact h, n⟩, fun a ob u h => by rw [za6 (zbl h hp)]; exact h⟩, rfl, fun a ha => by rw [za6 (h.pne hp ha)]⟩
theorem RelM.alloc (h : RelM fa K μ H M) {p : Addr} {o : HO} (hp : H p = none) : RelM fa K μ (upd H p o) M :=
  ⟨fun k ds e => let ⟨a, vs, h1, h2, h3⟩ := h.at' k ds e; ⟨a, vs, h1, by rw [za6 (zbl h2 hp)]; exact h2, h3.ext (Ext.alloc h hp)⟩, h.out, h.inj, fun a ha => ⟨let ⟨⟨vs, e⟩, _⟩ := h.pv a ha; ⟨vs, by rw [za6 (h.pne hp ha)]; exact e⟩, (h.pv a ha).2⟩⟩
def zfu (μ : Mu) (n : Nat) (p : Addr) : Mu := ⟨fun k => if k = n then some p else μ.pub k, μ.priv⟩
theorem Ext.cell {p : Addr} {o : HO} (h : RelM fa K μ H M) (hp : H p = none) : Ext μ H (zfu μ M.length p) (upd H p o) := by
  have rd : ∀ a u, Rd H a u -> Rd (upd H p o) a u := fun a u h => by
    rcases h with h | ⟨ob, h⟩
    · exact .inl (by rw [za6 (zbl h hp)]; exact h)
    · exact .inr ⟨ob, by rw [za6 (zbl h hp)]; exact h⟩
  refine ⟨⟨fun k a e => ?_, fun a vs g => rd a _ g, fun a vs g n => ⟨by rw [za6 (zbl g hp)]; exact g, fun e => ?_⟩, fun a ob u h => by rw [za6 (zbl h hp)]; exact h⟩, rfl, fun a ha => by rw [za6 (h.pne hp ha)]⟩
  · show (if k = M.length then some p else μ.pub k) = some a
    split
    · next q => rw [q, h.out _ (Nat.le_refl _)] at e; cases e
    · exact e
  · rcases e with ⟨k, e⟩ | e
    · have e : (if k = M.length then some p else μ.pub k) = some a := e
      split at e
      · cases e; exact zbl g hp rfl
      · exact n (.inl ⟨k, e⟩)
    · exact n (.inr e)
theorem RelM.cell (h : RelM fa K μ H M) {p : Addr} {ds : List D} {vs : List V} (hp : H p = none) (r : za0 fa K μ H ds vs) :
    RelM fa K (zfu μ M.length p) (upd H p (.lst vs)) (M ++ [ds]) := by
  have x : Ext μ H (zfu μ M.length p) (upd H p (.lst vs)) := Ext.cell h hp
  have np := h.fresh hp
  refine ⟨fun k ds' e => ?_, fun k hk => ?_, fun j k a h1 h2 => ?_, fun a ha => ?_⟩
  · by_cases hk : k < M.length
    · rw [List.getElem?_append_left hk] at e
      obtain ⟨a, ws, h1, h2, h3⟩ := h.at' k ds' e
      exact ⟨a, ws, x.mu k a h1, by rw [za6 (zbl h2 hp)]; exact h2, h3.ext x⟩
    · have hk' : k = M.length := by
        have := (List.getElem?_eq_some_iff.mp e).1
        simp at this; omega
      subst hk'
      rw [List.getElem?_append_right (Nat.le_refl _)] at e
      simp at e
      subst e
      exact ⟨p, vs, by simp [zfu], zc8, r.ext x⟩
  · simp at hk
    show (if k = M.length then some p else μ.pub k) = none
    rw [if_neg (by omega)]
    exact h.out k (by omega)
  · have h1 : (if j = M.length then some p else μ.pub j) = some a := h1
    have h2 : (if k = M.length then some p else μ.pub k) = some a := h2
    split at h1 <;> split at h2
    · omega
    · cases h1; exact absurd (.inl ⟨k, h2⟩) np
    · cases h2; exact absurd (.inl ⟨j, h1⟩) np
    · exact h.inj j k a h1 h2
  · obtain ⟨⟨ws, e⟩, n⟩ := h.pv a ha
    refine ⟨⟨ws, by rw [za6 (h.pne hp ha)]; exact e⟩, fun k e2 => ?_⟩
    have e2 : (if k = M.length then some p else μ.pub k) = some a := e2
    split at e2
    · cases e2; exact h.pne hp ha rfl
    · exact n k e2
theorem ExtW.write {a : Addr} {vs ws : List V} (h2 : H a = some (.lst vs)) (e : μ.Mt a) : ExtW μ H μ (upd H a (.lst ws)) := by
  have ne : ∀ b u, Rd H b u -> (∀ xs, u ≠ .lst xs) -> b ≠ a := fun b u g nu q => by
    subst q
    rcases g with g | ⟨ob, g⟩
    · rw [h2] at g; cases g; exact nu _ rfl
    · rw [h2] at g; cases g
  have rd : ∀ b u, b ≠ a -> Rd H b u -> Rd (upd H a (.lst ws)) b u := fun b u nb g => by
    rcases g with g | ⟨ob, g⟩
    · exact .inl (by rw [za6 nb]; exact g)
    · exact .inr ⟨ob, by rw [za6 nb]; exact g⟩
  exact ⟨fun _ _ q => q, fun b us g => rd b _ (ne b _ g (fun xs q => by cases q)) g, fun b us g n => ⟨by rw [za6 (fun q => n (by rw [q]; exact e))]; exact g, n⟩, fun b ob u g => by rw [za6 (fun q => by rw [q, h2] at g; cases g)]; exact g⟩
theorem Ext.write {k : Nat} {a : Addr} {vs ws : List V} (h : RelM fa K μ H M) (e : μ.pub k = some a) : Ext μ H μ (upd H a (.lst ws)) := by
  obtain ⟨ds, vs, _, h2, _⟩ := h.mu_lt e
  exact ⟨ExtW.write h2 (.inl ⟨k, e⟩), rfl, fun b hb => by rw [za6 (fun q => (h.pv b hb).2 k (by rw [q]; exact e))]⟩
theorem RelM.write (h : RelM fa K μ H M) {k : Nat} {a : Addr} {ds : List D} {ws : List V} (e : μ.pub k = some a) (r : za0 fa K μ H ds ws) : RelM fa K μ (upd H a (.lst ws)) (M.set k ds) := by
  have x : Ext μ H μ (upd H a (.lst ws)) := Ext.write (vs := ws) h e
  refine ⟨fun j es q => ?_, fun j hj => h.out j (by simpa using hj), h.inj, fun b hb => ⟨let ⟨⟨vs, g⟩, _⟩ := h.pv b hb; ⟨vs, by rw [x.pk b hb]; exact g⟩, (h.pv b hb).2⟩⟩
  by_cases hj : j = k
  · subst hj
    have hl : j < M.length := by have := (List.getElem?_eq_some_iff.mp q).1; simpa using this
    rw [List.getElem?_set_self hl] at q
    cases q
    exact ⟨a, ws, e, zc8, r.ext x⟩
  · rw [List.getElem?_set_ne (Ne.symm hj)] at q
    obtain ⟨b, vs, h1, h2, h3⟩ := h.at' j es q
    have nb : b ≠ a := fun z => hj (h.inj j k a (z ▸ h1) e)
    exact ⟨b, vs, h1, by rw [za6 nb]; exact h2, h3.ext x⟩
end
def okE {α : Type} (r : Res α) (k : α -> Mem -> Prop) : Prop := match r with
  | .ok a M => k a M
  | _ => False
theorem zbd {α β : Type} {r : Res α} {f : α -> Mem -> Res β} {k : β -> Mem -> Prop} (h : okE (r.bind f) k) : ∃ a M, r = .ok a M /\ okE (f a M) k := by
  cases r with
  | ok a M => exact ⟨a, M, rfl, h⟩
  | err => exact h.elim
  | bad => exact h.elim
theorem zju {α : Type} {M : Mem} {o : Option α} {k : α -> Mem -> Prop} (h : okE (ofO M o) k) : ∃ a, o = some a /\ k a M := by
  cases o with
  | none => exact h.elim
  | some a => exact ⟨a, rfl, h⟩
theorem zbv {α : Type} {r : Res α} {k k' : α -> Mem -> Prop} (h : okE r k) (m : ∀ a M, k a M -> k' a M) : okE r k' := by
  cases r with
  | ok a M => exact m a M h
  | err => exact h
  | bad => exact h
section
variable (fa : Fa) (K : PySem.W.Frag)
def zbs (μ : Mu) (H : Hp) (Q : VK) (d : D) (M' : Mem) : Prop := ∀ v H' μ', Ext μ H μ' H' -> RelM fa K μ' H' M' -> Rep fa K μ' H' d v -> Q v H'
def tE (g : Env -> Mem -> Res D) : TE := fun σ H Q => ∃ μ ρ M, zbr fa K μ H σ ρ /\ RelM fa K μ H M /\ okE (g ρ M) (zbs fa K μ H Q)
def tT (g : Env -> Mem -> Res Bool) : TT := fun σ H Q => ∃ μ ρ M, zbr fa K μ H σ ρ /\ RelM fa K μ H M /\ okE (g ρ M) fun b M' => ∀ H' μ', Ext μ H μ' H' -> RelM fa K μ' H' M' -> Q b H'
def tA (g : Env -> Mem -> Res (List D)) : TA := fun σ H Q => ∃ μ ρ M, zbr fa K μ H σ ρ /\ RelM fa K μ H M /\ okE (g ρ M) fun ds M' => ∀ vs H' μ', Ext μ H μ' H' -> RelM fa K μ' H' M' -> za0 fa K μ' H' ds vs -> Q vs H'
def tF (g : Env -> Mem -> Res Fl) : TS := fun D σ H => ∃ μ ρ M, zbr fa K μ H σ ρ /\ RelM fa K μ H M /\ okE (g ρ M) fun fl M' => match fl with
  | .next ρ' => ∀ σ' H' μ', Ext μ H μ' H' -> zbr fa K μ' H' σ' ρ' -> RelM fa K μ' H' M' -> D.nx σ' H'
  | .ret d => zbs fa K μ H D.rt d M'
end
section
variable {fa : Fa} {K : PySem.W.Frag} {μ μ' : Mu} {H H' : Hp} {Q : VK}
theorem zbs.ext {d : D} {M : Mem} (h : zbs fa K μ H Q d M) (x : Ext μ H μ' H') : zbs fa K μ' H' Q d M := fun v H'' μ'' y m r => h v H'' μ'' (x.trans y) m r
theorem okW {r : Res D} (h : okE r (zbs fa K μ H Q)) (x : Ext μ H μ' H') : okE r (zbs fa K μ' H' Q) := zbv h fun _ _ w => w.ext x
end
theorem zc0 {X : Cx} {e : PySem.Expr} {t t' : TE} (h : PE X e t) (i : ∀ σ H Q, t' σ H Q -> t σ H Q) : PE X e t' := fun pins s σ H Q I q => h pins s σ H Q I (i σ H Q q)
theorem zif {X : Cx} {e : PySem.Expr} {t t' : TT} (h : PT X e t) (i : ∀ σ H Q, t' σ H Q -> t σ H Q) : PT X e t' := fun pins s σ H Q I q => h pins s σ H Q I (i σ H Q q)
theorem zsw {X : Cx} {e : PySem.Expr} {t t' : TT} (h : PW X e t) (i : ∀ σ H Q, t' σ H Q -> t σ H Q) : PW X e t' := fun w pins s σ H Q I q => h w pins s σ H Q I (i σ H Q q)
theorem zs6 {X : Cx} {e : List PySem.Expr} {t t' : TA} (h : PA X e t) (i : ∀ σ H Q, t' σ H Q -> t σ H Q) : PA X e t' := fun pos pins s σ H Q I q => h pos pins s σ H Q I (i σ H Q q)
theorem zhn {X : Cx} {e : PySem.Stmt} {t t' : TS} (h : PS X e t) (i : ∀ D σ H, t' D σ H -> t D σ H) : PS X e t' := fun pins s σ H D I q => h pins s σ H D I (i D σ H q)
theorem zqk {X : Cx} {e : List PySem.Stmt} {t t' : TS} (h : PSs X e t) (i : ∀ D σ H, t' D σ H -> t D σ H) : PSs X e t' := fun pins s σ H D I q => h pins s σ H D I (i D σ H q)
section
variable {fa : Fa} {K : PySem.W.Frag} {μ : Mu} {H : Hp} {σ : L2.St} {ρ : Env} {M : Mem}
theorem t1 {g : Env -> Mem -> Res D} {β : Type} {f : D -> Mem -> Res β} {P : β -> Mem -> Prop} {R : V -> Hp -> Prop} (hE : zbr fa K μ H σ ρ) (hM : RelM fa K μ H M) (h : okE ((g ρ M).bind f) P)
    (k : ∀ x M1 v H1 μ1, Ext μ H μ1 H1 -> zbr fa K μ1 H1 σ ρ -> RelM fa K μ1 H1 M1 -> Rep fa K μ1 H1 x v -> okE (f x M1) P -> R v H1) : tE fa K g σ H R := by
  obtain ⟨x, M1, e, q⟩ := zbd h
  refine ⟨μ, ρ, M, hE, hM, ?_⟩
  rw [e]
  exact fun v H1 μ1 x1 m1 r1 => k x M1 v H1 μ1 x1 (hE.ext x1) m1 r1 q
theorem tT1 {g : Env -> Mem -> Res Bool} {β : Type} {f : Bool -> Mem -> Res β} {P : β -> Mem -> Prop} {R : Bool -> Hp -> Prop} (hE : zbr fa K μ H σ ρ) (hM : RelM fa K μ H M) (h : okE ((g ρ M).bind f) P)
    (k : ∀ b M1 H1 μ1, Ext μ H μ1 H1 -> zbr fa K μ1 H1 σ ρ -> RelM fa K μ1 H1 M1 -> okE (f b M1) P -> R b H1) : tT fa K g σ H R := by
  obtain ⟨b, M1, e, q⟩ := zbd h
  refine ⟨μ, ρ, M, hE, hM, ?_⟩
  rw [e]
  exact fun H1 μ1 x1 m1 => k b M1 H1 μ1 x1 (hE.ext x1) m1 q
theorem tA1 {g : Env -> Mem -> Res (List D)} {β : Type} {f : List D -> Mem -> Res β} {P : β -> Mem -> Prop} {R : List V -> Hp -> Prop} (hE : zbr fa K μ H σ ρ) (hM : RelM fa K μ H M) (h : okE ((g ρ M).bind f) P)
    (k : ∀ ds M1 vs H1 μ1, Ext μ H μ1 H1 -> zbr fa K μ1 H1 σ ρ -> RelM fa K μ1 H1 M1 -> za0 fa K μ1 H1 ds vs -> okE (f ds M1) P -> R vs H1) : tA fa K g σ H R := by
  obtain ⟨ds, M1, e, q⟩ := zbd h
  refine ⟨μ, ρ, M, hE, hM, ?_⟩
  rw [e]
  exact fun v H1 μ1 x1 m1 r1 => k ds M1 v H1 μ1 x1 (hE.ext x1) m1 r1 q
end
end LD
namespace LD
open PySem PySem.Spec PyProof.Rows L2
mutual
def toPy : D -> PyData
  | .non => .none
  | .bl b => .bool b
  | .int i => .int i
  | .str x => .str x
  | .tup ds => .tuple (zc1 ds)
  | .lst ds => .list (zc1 ds)
  | .frz _ => .none
  | .cell _ => .none
  | .fn _ => .none
def zc1 : List D -> List PyData
  | [] => []
  | d :: r => toPy d :: zc1 r
end
theorem zl1 : ∀ (n : Nat) (d : D), zav n d = true -> (toPy d).canLay0 = true /\ (toPy d).depth ≤ n := by
  have all : ∀ (n : Nat), (∀ d, zav n d = true -> (toPy d).canLay0 = true /\ (toPy d).depth ≤ n) -> ∀ ds : List D, ds.all (zav n) = true -> PyData.canLayAll0 (zc1 ds) = true /\ PyData.depthAll (zc1 ds) ≤ n := by
    intro n h ds
    induction ds with
    | nil => intro _; simp [zc1, PyData.canLayAll0, PyData.depthAll]
    | cons d r ih =>
      intro q
      simp only [List.all_cons, Bool.and_eq_true] at q
      obtain ⟨h1, h2⟩ := h d q.1
      obtain ⟨h3, h4⟩ := ih q.2
      simp only [zc1, PyData.canLayAll0, PyData.depthAll, h1, h3, Bool.and_self, true_and]
      omega
  intro n
  induction n with
  | zero =>
    intro d h
    cases d with
    | str x => exact ⟨by simpa [toPy, PyData.canLay0, PyData.strOk, zav] using h, by simp [toPy, PyData.depth]⟩
    | tup _ => simp [zav] at h
    | lst _ => simp [zav] at h
    | frz _ => simp [zav] at h
    | cell _ => simp [zav] at h
    | fn _ => simp [zav] at h
    | _ => exact ⟨by simp [toPy, PyData.canLay0], by simp [toPy, PyData.depth]⟩
  | succ n ih =>
    intro d h
    cases d with
    | str x => exact ⟨by simpa [toPy, PyData.canLay0, PyData.strOk, zav] using h, by simp [toPy, PyData.depth]⟩
    | tup ds =>
      obtain ⟨h1, h2⟩ := all n ih ds (by simpa [zav] using h)
      simp only [toPy, PyData.canLay0, PyData.depth, h1, true_and]
      omega
    | lst ds =>
      obtain ⟨h1, h2⟩ := all n ih ds (by simpa [zav] using h)
      simp only [toPy, PyData.canLay0, PyData.depth, h1, true_and]
      omega
    | frz _ => simp [zav] at h
    | cell _ => simp [zav] at h
    | fn _ => simp [zav] at h
    | _ => exact ⟨by simp [toPy, PyData.canLay0], by simp [toPy, PyData.depth]⟩
theorem zht {d : D} (h : zav 64 d = true) : SeqAt.shaped (toPy d) = true := by
  obtain ⟨h1, h2⟩ := zl1 64 d h
  simp [SeqAt.shaped, h1, h2]
mutual
theorem zjz : ∀ (n m : Nat) (a b : D), zav n a = true -> zav m b = true -> PyData.eqv (toPy a) (toPy b) = zbm a b
  | n, m, .tup a, .tup b, ha, hb => by
    cases n with
    | zero => simp [zav] at ha
    | succ n =>
      cases m with
      | zero => simp [zav] at hb
      | succ m =>
        simp only [toPy, PyData.eqv, zbm]
        exact zko n m a b (by simpa [zav] using ha) (by simpa [zav] using hb)
  | n, m, .lst a, .lst b, ha, hb => by
    cases n with
    | zero => simp [zav] at ha
    | succ n =>
      cases m with
      | zero => simp [zav] at hb
      | succ m =>
        simp only [toPy, PyData.eqv, zbm]
        exact zko n m a b (by simpa [zav] using ha) (by simpa [zav] using hb)
  | n, m, .frz _, _, ha, hb => by cases n <;> simp [zav] at ha
  | n, m, .cell _, _, ha, hb => by cases n <;> simp [zav] at ha
  | n, m, .fn _, _, ha, hb => by cases n <;> simp [zav] at ha
  | n, m, _, .frz _, ha, hb => by cases m <;> simp [zav] at hb
  | n, m, _, .cell _, ha, hb => by cases m <;> simp [zav] at hb
  | n, m, _, .fn _, ha, hb => by cases m <;> simp [zav] at hb
  | _, _, .non, .non, _, _ => by simp [toPy, PyData.eqv, zbm]
  | _, _, .non, .bl _, _, _ => by simp [toPy, PyData.eqv, zbm]
  | _, _, .non, .int _, _, _ => by simp [toPy, PyData.eqv, zbm]
  | _, _, .non, .str _, _, _ => by simp [toPy, PyData.eqv, zbm]
  | _, _, .non, .tup _, _, _ => by simp [toPy, PyData.eqv, zbm]
  | _, _, .non, .lst _, _, _ => by simp [toPy, PyData.eqv, zbm]
  | _, _, .bl _, .non, _, _ => by simp [toPy, PyData.eqv, zbm]
  | _, _, .bl _, .bl _, _, _ => by simp [toPy, PyData.eqv, zbm]
  | _, _, .bl _, .int _, _, _ => by simp [toPy, PyData.eqv, zbm]
  | _, _, .bl _, .str _, _, _ => by simp [toPy, PyData.eqv, zbm]
  | _, _, .bl _, .tup _, _, _ => by simp [toPy, PyData.eqv, zbm]
  | _, _, .bl _, .lst _, _, _ => by simp [toPy, PyData.eqv, zbm]
  | _, _, .int _, .non, _, _ => by simp [toPy, PyData.eqv, zbm]
  | _, _, .int _, .bl _, _, _ => by simp [toPy, PyData.eqv, zbm]
  | _, _, .int _, .int _, _, _ => by simp [toPy, PyData.eqv, zbm]
  | _, _, .int _, .str _, _, _ => by simp [toPy, PyData.eqv, zbm]
  | _, _, .int _, .tup _, _, _ => by simp [toPy, PyData.eqv, zbm]
  | _, _, .int _, .lst _, _, _ => by simp [toPy, PyData.eqv, zbm]
  | _, _, .str _, .non, _, _ => by simp [toPy, PyData.eqv, zbm]
  | _, _, .str _, .bl _, _, _ => by simp [toPy, PyData.eqv, zbm]
  | _, _, .str _, .int _, _, _ => by simp [toPy, PyData.eqv, zbm]
  | _, _, .str _, .str _, _, _ => by simp [toPy, PyData.eqv, zbm]
  | _, _, .str _, .tup _, _, _ => by simp [toPy, PyData.eqv, zbm]
  | _, _, .str _, .lst _, _, _ => by simp [toPy, PyData.eqv, zbm]
  | _, _, .tup _, .non, _, _ => by simp [toPy, PyData.eqv, zbm]
  | _, _, .tup _, .bl _, _, _ => by simp [toPy, PyData.eqv, zbm]
  | _, _, .tup _, .int _, _, _ => by simp [toPy, PyData.eqv, zbm]
  | _, _, .tup _, .str _, _, _ => by simp [toPy, PyData.eqv, zbm]
  | _, _, .tup _, .lst _, _, _ => by simp [toPy, PyData.eqv, zbm]
  | _, _, .lst _, .non, _, _ => by simp [toPy, PyData.eqv, zbm]
  | _, _, .lst _, .bl _, _, _ => by simp [toPy, PyData.eqv, zbm]
  | _, _, .lst _, .int _, _, _ => by simp [toPy, PyData.eqv, zbm]
  | _, _, .lst _, .str _, _, _ => by simp [toPy, PyData.eqv, zbm]
  | _, _, .lst _, .tup _, _, _ => by simp [toPy, PyData.eqv, zbm]
theorem zko : ∀ (n m : Nat) (a b : List D), a.all (zav n) = true -> b.all (zav m) = true -> PyData.eqvAll (zc1 a) (zc1 b) = zjm a b
  | n, m, [], [], _, _ => by simp [zc1, PyData.eqvAll, zjm]
  | n, m, [], _ :: _, _, _ => by simp [zc1, PyData.eqvAll, zjm]
  | n, m, _ :: _, [], _, _ => by simp [zc1, PyData.eqvAll, zjm]
  | n, m, x :: a, y :: b, ha, hb => by
    simp only [List.all_cons, Bool.and_eq_true] at ha hb
    simp only [zc1, PyData.eqvAll, zjm]
    rw [zjz n m x y ha.1 hb.1, zko n m a b ha.2 hb.2]
end
section
variable {fa : Fa} {X : Cx} {μ : Mu} {H : Hp} {σ : L2.St} {pins : List (Addr × Obj)} {s : Shared} {M : Mem}
theorem zhm {d : D} {v : V} {ds : List D} (hM : RelM fa X.K μ H M) (h : Rep fa X.K μ H d v) (e : zhr M d = some ds) : ∃ a vs, v = .ref a /\ H a = some (.lst vs) /\ za0 fa X.K μ H ds vs := by
  cases d with
  | lst xs =>
    cases e
    obtain ⟨a, vs, e, s, r⟩ := h
    exact ⟨a, vs, e, s.1, r⟩
  | cell k =>
    obtain ⟨a, rfl, hk⟩ := h
    obtain ⟨b, vs, h1, h2, h3⟩ := hM.at' k ds e
    rw [hk] at h1; cases h1
    exact ⟨a, vs, rfl, h2, h3⟩
  | _ => cases e
theorem zcd {d : D} {v : V} {ds : List D} (hM : RelM fa X.K μ H M) (h : Rep fa X.K μ H d v) (e : rdD M d = some ds) : ∃ a vs, v = .ref a /\ SqL X.K H a vs /\ za0 fa X.K μ H ds vs := by
  cases d with
  | lst xs =>
    obtain ⟨a, vs, h1, h2, h3⟩ := zhm (ds := ds) hM h e
    exact ⟨a, vs, h1, .of h2, h3⟩
  | frz xs =>
    cases e
    obtain ⟨a, vs, e, s, r⟩ := h
    exact ⟨a, vs, e, s.elim (fun z => .inl (.inr z)) .inr, r⟩
  | cell k =>
    obtain ⟨a, vs, h1, h2, h3⟩ := zhm (ds := ds) hM h e
    exact ⟨a, vs, h1, .of h2, h3⟩
  | _ => cases e
theorem zhl {d : D} {v : V} {ds : List D} (hM : RelM fa X.K μ H M) (h : Rep fa X.K μ H d v) (e : zcx M d = some ds) : ∃ a vs, v = .ref a /\ (SqL X.K H a vs \/ SqT X.K H a vs) /\ za0 fa X.K μ H ds vs := by
  cases d with
  | tup xs =>
    cases e
    obtain ⟨a, vs, rfl, h1, h2⟩ := h
    exact ⟨a, vs, rfl, .inr h1, h2⟩
  | lst xs =>
    obtain ⟨a, vs, h1, h2, h3⟩ := zcd (ds := ds) hM h e
    exact ⟨a, vs, h1, .inl h2, h3⟩
  | frz xs =>
    obtain ⟨a, vs, h1, h2, h3⟩ := zcd (ds := ds) hM h e
    exact ⟨a, vs, h1, .inl h2, h3⟩
  | cell k =>
    obtain ⟨a, vs, h1, h2, h3⟩ := zcd (ds := ds) hM h e
    exact ⟨a, vs, h1, .inl h2, h3⟩
  | _ => cases e
mutual
theorem zeq (I : Inv X pins σ H s) : ∀ (d : D) (n : Nat) (v : V) (u : Value), zav n d = true -> Rep fa X.K μ H d v -> RelV v u -> ∃ as, Reads s.heap u (toPy d) as
  | .non, n, v, u, _, h, r => by
    obtain rfl : v = .non := h
    obtain rfl : u = Value.none := r
    exact ⟨_, .none⟩
  | .bl b, n, v, u, _, h, r => by
    obtain rfl : v = .bl b := h
    obtain rfl : u = Value.bool b := r
    exact ⟨_, .bool b⟩
  | .int i, n, v, u, _, h, r => by
    obtain rfl : v = .int i := h
    obtain ⟨t, rfl⟩ := r
    exact ⟨_, .int i t⟩
  | .str x, n, v, u, _, h, r => by
    obtain rfl : v = .str x := h
    obtain ⟨t, rfl⟩ := r
    exact ⟨_, .str x t⟩
  | .tup ds, n, v, u, hp, h, r => by
    cases n with
    | zero => simp [zav] at hp
    | succ n =>
      obtain ⟨a, vs, rfl, h1, h2⟩ := h
      obtain rfl : u = Value.ref a := r
      obtain ⟨its, rv, ⟨o, e1, e2, k, e3⟩, _⟩ := I.tuple h1
      obtain ⟨as, q⟩ := zfs I ds n vs its (by simpa [zav] using hp) h2 rv
      exact ⟨_, .tuple e1 e2 e3 (by simpa using q)⟩
  | .lst ds, n, v, u, hp, h, r => by
    cases n with
    | zero => simp [zav] at hp
    | succ n =>
      obtain ⟨a, vs, rfl, h1, h2⟩ := h
      obtain rfl : u = Value.ref a := r
      obtain ⟨its, rv, ⟨o, k, e1, e2, e4, e3⟩, _⟩ := I.list (SqL.of h1.1)
      obtain ⟨as, q⟩ := zfs I ds n vs its (by simpa [zav] using hp) h2 rv
      exact ⟨_, .list e1 e2 e3 (by simpa using q)⟩
  | .frz k, n, v, u, hp, _, _ => by cases n <;> simp [zav] at hp
  | .cell k, n, v, u, hp, _, _ => by cases n <;> simp [zav] at hp
  | .fn f, n, v, u, hp, _, _ => by cases n <;> simp [zav] at hp
theorem zfs (I : Inv X pins σ H s) : ∀ (ds : List D) (n : Nat) (vs : List V) (us : List Value), ds.all (zav n) = true -> za0 fa X.K μ H ds vs -> Vals vs us -> ∃ as, ReadsAll s.heap us (zc1 ds) as
  | [], n, vs, us, _, h, r => by
    obtain rfl : vs = [] := h
    cases r
    exact ⟨_, .nil⟩
  | d :: ds, n, vs, us, hp, h, r => by
    obtain ⟨v, vr, rfl, h1, h2⟩ := h
    simp only [List.all_cons, Bool.and_eq_true] at hp
    cases r with
    | cons r1 r2 =>
      obtain ⟨as, q1⟩ := zeq I d n v _ hp.1 h1 r1
      obtain ⟨bs, q2⟩ := zfs I ds n vr _ hp.2 h2 r2
      exact ⟨_, .cons q1 q2⟩
end
theorem zwz {d : D} {n : Nat} (h : zav n (view M d) = true) : (view M d = d /\ zav n d = true) \/ ∃ ds, rdD M d = some ds /\ view M d = .lst ds := by
  cases d with
  | cell k =>
    cases e : M[k]? with
    | none =>
      have ev : view M (.cell k) = .cell k := by simp [view, e]
      rw [ev] at h
      cases n <;> simp [zav] at h
    | some ds => exact .inr ⟨ds, e, by simp [view, e]⟩
  | frz ds => exact .inr ⟨ds, rfl, rfl⟩
  | _ => exact .inl ⟨rfl, h⟩
theorem zil (I : Inv X pins σ H s) (hM : RelM fa X.K μ H M) {d : D} {v : V} {u : Value} (hp : zav 64 (view M d) = true) (h : Rep fa X.K μ H d v) (r : RelV v u) : ∃ as, Reads s.heap u (toPy (view M d)) as := by
  rcases zwz hp with ⟨e, hp'⟩ | ⟨ds, e, ev⟩
  · rw [e]; exact zeq I _ 64 v u hp' h r
  · rw [ev] at hp ⊢
    obtain ⟨a, vs, rfl, h1, h2⟩ := zcd (ds := ds) hM h e
    obtain rfl : u = Value.ref a := r
    obtain ⟨its, rv, ⟨o, k, e1, e2, e4, e3⟩, _⟩ := I.list h1
    obtain ⟨as, q⟩ := zfs I ds 63 vs its (by simpa [zav] using hp) h2 rv
    exact ⟨_, .list e1 e2 e3 (by simpa using q)⟩
theorem zh0 (I : Inv X pins σ H s) (hM : RelM fa X.K μ H M) : ∀ (n m : Nat) (d : D) (v : V) (u : Value), zav m (zd3 n M d) = true -> Rep fa X.K μ H d v -> RelV v u -> ∃ as, Reads s.heap u (toPy (zd3 n M d)) as
  | 0, m, d, v, u, hp, h, r => zeq I d m v u hp h r
  | n + 1, m, d, v, u, hp, h, r => by
    have ih := zh0 I hM n
    have all : ∀ (m : Nat) (ds : List D) (vs : List V) (us : List Value), (ds.map (zd3 n M)).all (zav m) = true -> za0 fa X.K μ H ds vs -> Vals vs us -> ∃ as, ReadsAll s.heap us (zc1 (ds.map (zd3 n M))) as := by
      intro m ds
      induction ds with
      | nil =>
        intro vs us _ h r
        obtain rfl : vs = [] := h
        cases r
        exact ⟨_, .nil⟩
      | cons d ds ihl =>
        intro vs us hp h r
        obtain ⟨v, vr, rfl, h1, h2⟩ := h
        simp only [List.map_cons, List.all_cons, Bool.and_eq_true] at hp
        cases r with
        | cons r1 r2 =>
          obtain ⟨as, q1⟩ := ih m d v _ hp.1 h1 r1
          obtain ⟨bs, q2⟩ := ihl vr _ hp.2 h2 r2
          exact ⟨_, .cons q1 q2⟩
    have lst : ∀ (ds : List D) (a : Addr) (vs : List V), zav m (.lst (ds.map (zd3 n M))) = true -> SqL X.K H a vs -> za0 fa X.K μ H ds vs -> u = .ref a -> ∃ as, Reads s.heap u (toPy (.lst (ds.map (zd3 n M)))) as := by
      intro ds a vs hp h1 h2 e
      subst e
      cases m with
      | zero => simp [zav] at hp
      | succ m =>
        obtain ⟨its, rv, ⟨o, k, e1, e2, e4, e3⟩, _⟩ := I.list h1
        obtain ⟨as, q⟩ := all m ds vs its (by simpa [zav] using hp) h2 rv
        exact ⟨_, .list e1 e2 e3 (by simpa using q)⟩
    cases d with
    | cell k =>
      cases e : M[k]? with
      | none =>
        have ev : zd3 (n + 1) M (.cell k) = .cell k := by simp [zd3, e]
        rw [ev] at hp
        cases m <;> simp [zav] at hp
      | some ds =>
        have ev : zd3 (n + 1) M (.cell k) = .lst (ds.map (zd3 n M)) := by simp [zd3, e]
        rw [ev] at hp ⊢
        obtain ⟨a, vs, rfl, h1, h2⟩ := zcd (ds := ds) hM h e
        exact lst ds a vs hp h1 h2 r
    | frz ds =>
      obtain ⟨a, vs, rfl, h1, h2⟩ := zcd (ds := ds) hM h rfl
      exact lst ds a vs hp h1 h2 r
    | lst ds =>
      obtain ⟨a, vs, rfl, h1, h2⟩ := zcd (ds := ds) hM h rfl
      exact lst ds a vs hp h1 h2 r
    | tup ds =>
      have hp : zav m (.tup (ds.map (zd3 n M))) = true := hp
      cases m with
      | zero => simp [zav] at hp
      | succ m =>
        obtain ⟨a, vs, rfl, h1, h2⟩ := h
        obtain rfl : u = Value.ref a := r
        obtain ⟨its, rv, ⟨o, e1, e2, k, e3⟩, _⟩ := I.tuple h1
        obtain ⟨as, q⟩ := all m ds vs its (by simpa [zav] using hp) h2 rv
        exact ⟨_, .tuple e1 e2 e3 (by simpa using q)⟩
    | non => exact zeq I .non m v u hp h r
    | bl b => exact zeq I (.bl b) m v u hp h r
    | int i => exact zeq I (.int i) m v u hp h r
    | str x => exact zeq I (.str x) m v u hp h r
    | fn f => exact zeq I (.fn f) m v u hp h r
abbrev Rm (X : Cx) : Prop := X.A.units + 100 < cLine
def zga (fa : Fa) (K : PySem.W.Frag) (o : Cmp) : R2 := fun x y H Q => ∃ μ M dx dy b, RelM fa K μ H M /\ Rep fa K μ H dx x /\ Rep fa K μ H dy y /\ zb4 o dx dy M = some b /\ Q (.bl b) H
theorem zpj {a b : D} {k : Bool} (h : eqD a b = some k) : zav 64 a = true /\ zav 64 b = true /\ k = zbm a b := by
  unfold eqD at h
  split at h
  · next q =>
    simp only [Bool.and_eq_true] at q
    exact ⟨q.1, q.2, (Option.some.inj h).symm⟩
  · cases h
theorem zm6 (I : Inv X pins σ H s) (hM : RelM fa X.K μ H M) {a b : D} {x y : V} {v u : Value} {k : Bool} (h : eqM M a b = some k) (h1 : Rep fa X.K μ H a x) (h2 : Rep fa X.K μ H b y) (rx : RelV x v) (ry : RelV y u) :
    ∃ c e as bs, zav 64 c = true /\ zav 64 e = true /\ k = zbm c e /\ Reads s.heap v (toPy c) as /\ Reads s.heap u (toPy e) bs := by
  unfold eqM at h
  cases q : eqD (view M a) (view M b) with
  | some r =>
    rw [q] at h
    cases h
    obtain ⟨p1, p2, e⟩ := zpj q
    obtain ⟨as, r1⟩ := zil I hM p1 h1 rx
    obtain ⟨bs, r2⟩ := zil I hM p2 h2 ry
    exact ⟨_, _, as, bs, p1, p2, e, r1, r2⟩
  | none =>
    rw [q] at h
    obtain ⟨p1, p2, e⟩ := zpj h
    obtain ⟨as, r1⟩ := zh0 I hM 64 64 a x v p1 h1 rx
    obtain ⟨bs, r2⟩ := zh0 I hM 64 64 b y u p2 h2 ry
    exact ⟨_, _, as, bs, p1, p2, e, r1, r2⟩
theorem c_eq (hu : Rm X) : OpR X (compareOp .Eq) (zga fa X.K .eq) := by
  intro pins s σ H x y v u Q I rx ry h
  obtain ⟨μ, M, dx, dy, b, hM, h1, h2, e, q⟩ := h
  obtain ⟨_, _, as, bs, p1, p2, rfl, r1, r2⟩ := zm6 I hM (show eqM M dx dy = some b from e) h1 h2 rx ry
  refine SeqAt.compareEq_shaped r1 r2 (zht p1) (zht p2) (by unfold Rm at hu; omega) ?_
  rw [zjz 64 64 _ _ p1 p2]
  exact ⟨.bl _, H, I, rfl, q⟩
theorem c_ne (hu : Rm X) : OpR X (compareOp .NotEq) (zga fa X.K .ne) := by
  intro pins s σ H x y v u Q I rx ry h
  obtain ⟨μ, M, dx, dy, b, hM, h1, h2, e, q⟩ := h
  have e : (eqM M dx dy).map (!·) = some b := e
  cases e' : eqM M dx dy with
  | none => rw [e'] at e; cases e
  | some k =>
    rw [e'] at e
    obtain rfl : (!k) = b := Option.some.inj e
    obtain ⟨_, _, as, bs, p1, p2, rfl, r1, r2⟩ := zm6 I hM e' h1 h2 rx ry
    refine SeqAt.compareNe_shaped r1 r2 (zht p1) (zht p2) (by unfold Rm at hu; omega) ?_
    rw [zjz 64 64 _ _ p1 p2]
    exact ⟨.bl _, H, I, rfl, q⟩
end
end LD
namespace LD
open PySem PySem.Spec PyProof.Rows L2
section
variable {fa : Fa} {X : Cx} {μ : Mu} {H : Hp} {σ : L2.St} {pins : List (Addr × Obj)} {s : Shared} {M : Mem}
theorem zgx {f : Value -> Value -> Sem Value} {r r' : R2} (h : OpR X f r) (i : ∀ x y H Q, r' x y H Q -> r x y H Q) : OpR X f r' := fun pins s σ H x y v u Q I rx ry q => h pins s σ H x y v u Q I rx ry (i x y H Q q)
theorem ziz {f : Value} {r r' : List V -> Hp -> VK -> Prop} (h : zdl X f r) (i : ∀ xs H Q, r' xs H Q -> r xs H Q) : zdl X f r' := fun pins s σ H xs us Q I rx q => h pins s σ H xs us Q I rx (i xs H Q q)
theorem zj1 {o : Cmp} {g : Int -> Int -> Bool} (ho : o = .lt \/ o = .le \/ o = .gt \/ o = .ge) (hg : ∀ i j, zb4 o (.int i) (.int j) [] = some (g i j)) {x y : V} {Q : VK} (h : zga fa X.K o x y H Q) :
    ∃ i j, x = .int i /\ y = .int j /\ Q (.bl (g i j)) H := by
  obtain ⟨μ, M, dx, dy, b, hM, h1, h2, e, q⟩ := h
  have key : ∀ i j, dx = .int i -> dy = .int j -> ∃ i j, x = .int i /\ y = .int j /\ Q (.bl (g i j)) H := fun i j e1 e2 => by
    subst e1 e2
    have e3 : zb4 o (.int i) (.int j) M = some (g i j) := by
      have := hg i j
      rcases ho with rfl | rfl | rfl | rfl <;> exact this
    rw [e] at e3
    have e4 := Option.some.inj e3
    subst e4
    exact ⟨i, j, h1, h2, q⟩
  rcases ho with rfl | rfl | rfl | rfl <;>
  · cases dx <;> cases dy <;> first | exact key _ _ rfl rfl | cases e
theorem c_lt : OpR X (compareOp .Lt) (zga fa X.K .lt) := zgx op_lt fun x y H Q h => zj1 (.inl rfl) (fun _ _ => rfl) h
theorem c_le : OpR X (compareOp .LtE) (zga fa X.K .le) := zgx op_le fun x y H Q h => zj1 (.inr (.inl rfl)) (fun _ _ => rfl) h
theorem c_gt : OpR X (compareOp .Gt) (zga fa X.K .gt) := zgx op_gt fun x y H Q h => zj1 (.inr (.inr (.inl rfl))) (fun _ _ => rfl) h
theorem c_ge : OpR X (compareOp .GtE) (zga fa X.K .ge) := zgx op_ge fun x y H Q h => zj1 (.inr (.inr (.inr rfl))) (fun _ _ => rfl) h
theorem zqj {d : D} {v : V} {K : PySem.W.Frag} (h : Rep fa K μ H d v) : decide (v = .non) = zis d := by
  cases d with
  | non => obtain rfl : v = .non := h; rfl
  | bl b => obtain rfl : v = .bl b := h; rfl
  | int b => obtain rfl : v = .int b := h; rfl
  | str b => obtain rfl : v = .str b := h; rfl
  | tup b => obtain ⟨a, vs, rfl, _⟩ := h; rfl
  | lst b => obtain ⟨a, vs, rfl, _⟩ := h; rfl
  | frz b => obtain ⟨a, vs, rfl, _⟩ := h; rfl
  | cell b => obtain ⟨a, rfl, _⟩ := h; rfl
  | fn b => obtain ⟨a, rfl, _⟩ := h; rfl
theorem c_isN : OpR X (compareOp .Is) (zga fa X.K .isN) := zgx op_isN fun x y H Q h => by
  obtain ⟨μ, M, dx, dy, b, hM, h1, h2, e, q⟩ := h
  cases dy <;> first | cases (show (none : Option Bool) = some b from e) | skip
  refine ⟨h2, ?_⟩
  rw [zqj h1]
  have e : some (zis dx) = some b := e
  rw [Option.some.inj e]; exact q
theorem c_notN : OpR X (compareOp .IsNot) (zga fa X.K .notN) := zgx zx2 fun x y H Q h => by
  obtain ⟨μ, M, dx, dy, b, hM, h1, h2, e, q⟩ := h
  cases dy <;> first | cases (show (none : Option Bool) = some b from e) | skip
  refine ⟨h2, ?_⟩
  rw [zqj h1]
  have e : some (!zis dx) = some b := e
  rw [Option.some.inj e]; exact q
theorem zpx (x : D) (hx : zav 64 x = true) : ∀ (ds : List D), ds.all (zav 63) = true -> ((zc1 ds).any fun y => PyData.eqv y (toPy x)) = ds.any fun y => zbm y x
  | [], _ => rfl
  | d :: r, h => by
    simp only [List.all_cons, Bool.and_eq_true] at h
    simp only [zc1, List.any_cons, zjz 63 64 d x h.1 hx, zpx x hx r h.2]
theorem zoe (n : Nat) : ∀ ds : List D, ds.all (zav n) = true -> PyData.canLayAll0 (zc1 ds) = true /\ PyData.depthAll (zc1 ds) ≤ n
  | [], _ => by simp [zc1, PyData.canLayAll0, PyData.depthAll]
  | d :: r, h => by
    simp only [List.all_cons, Bool.and_eq_true] at h
    obtain ⟨h1, h2⟩ := zl1 n d h.1
    obtain ⟨h3, h4⟩ := zoe n r h.2
    simp only [zc1, PyData.canLayAll0, PyData.depthAll, h1, h3, Bool.and_self, true_and]
    omega
theorem zsp (I : Inv X pins σ H s) (hM : RelM fa X.K μ H M) {d : D} {v : V} {u : Value} {ds : List D} (hp : ds.all (zav 63) = true) (h : Rep fa X.K μ H d v) (r : RelV v u) (e : zcx M d = some ds) :
    (∃ as, Reads s.heap u (.list (zc1 ds)) as) \/ ∃ as, Reads s.heap u (.tuple (zc1 ds)) as := by
  obtain ⟨a, vs, rfl, h1, h2⟩ := zhl (ds := ds) hM h e
  obtain rfl : u = Value.ref a := r
  rcases h1 with h1 | h1
  · obtain ⟨its, rv, ⟨o, k, e1, e2, e4, e3⟩, _⟩ := I.list h1
    obtain ⟨as, q⟩ := zfs I ds 63 vs its hp h2 rv
    exact .inl ⟨_, .list e1 e2 e3 (by simpa using q)⟩
  · obtain ⟨its, rv, ⟨o, e1, e2, k, e3⟩, _⟩ := I.tuple h1
    obtain ⟨as, q⟩ := zfs I ds 63 vs its hp h2 rv
    exact .inr ⟨_, .tuple e1 e2 e3 (by simpa using q)⟩
theorem ztr (hu : Rm X) {x y : V} {v u : Value} {dx dy : D} {ds : List D} {b : Bool} {Q : Value -> Shared -> Prop} (I : Inv X pins σ H s) (hM : RelM fa X.K μ H M) (h1 : Rep fa X.K μ H dx x) (h2 : Rep fa X.K μ H dy y) (rx : RelV x v) (ry : RelV y u)
    (e1 : zcx M dy = some ds) (e2 : inL (view M dx) ds = some b) (neg : Bool) (q : Q (.bool (if neg then !b else b)) s) : wpAny (model X.prog X.w) X.A (compareOp (if neg then .NotIn else .In) v u) Q X.xe s := by
  unfold inL at e2
  split at e2
  · next z =>
    simp only [Bool.and_eq_true] at z
    obtain ⟨p1, p2⟩ := z
    have e3 := Option.some.inj e2
    subst e3
    obtain ⟨as, r1⟩ := zil I hM p1 h1 rx
    obtain ⟨c1, d1⟩ := zl1 64 _ p1
    obtain ⟨c2, d2⟩ := zoe 63 ds p2
    have hu' : X.A.units + 1 + min (PyData.depthAll (zc1 ds)) (toPy (view M dx)).depth < cLine := by unfold Rm at hu; omega
    rw [<- zpx _ p1 ds p2] at q
    rcases zsp I hM p2 h2 ry e1 with ⟨bs, r2⟩ | ⟨bs, r2⟩
    · cases neg
      · exact SeqAt.in_list_reads r2 r1 c2 c1 hu' q
      · exact SeqAt.notIn_list_reads r2 r1 c2 c1 hu' q
    · cases neg
      · exact SeqAt.in_tuple_reads r2 r1 c2 c1 hu' q
      · exact SeqAt.notIn_tuple_reads r2 r1 c2 c1 hu' q
  · cases e2
theorem c_in (hu : Rm X) : OpR X (compareOp .In) (zga fa X.K .isin) := by
  intro pins s σ H x y v u Q I rx ry h
  obtain ⟨μ, M, dx, dy, b, hM, h1, h2, e, q⟩ := h
  have gen : (zcx M dy).bind (inL (view M dx)) = some b -> wpAny (model X.prog X.w) X.A (compareOp .In v u) (EP X pins σ Q) X.xe s := fun e => by
    cases e1 : zcx M dy with
    | none => rw [e1] at e; cases e
    | some ds =>
      rw [e1] at e
      exact ztr hu I hM h1 h2 rx ry e1 e false ⟨.bl b, H, I, rfl, q⟩
  by_cases hs : (∃ a, dx = .str a) /\ ∃ c, dy = .str c
  · obtain ⟨⟨a, rfl⟩, c, rfl⟩ := hs
    have e : some (zhh a c) = some b := e
    have e' := Option.some.inj e
    subst e'
    exact ztd pins s σ H x y v u Q I rx ry ⟨a, c, h1, h2, q⟩
  · refine gen ?_
    cases dx <;> first | exact e | (cases dy <;> first | exact e | exact absurd ⟨⟨_, rfl⟩, _, rfl⟩ hs)
theorem zyw (hu : Rm X) : OpR X (compareOp .NotIn) (zga fa X.K .notin) := by
  intro pins s σ H x y v u Q I rx ry h
  obtain ⟨μ, M, dx, dy, b, hM, h1, h2, e, q⟩ := h
  have gen : ((zcx M dy).bind (inL (view M dx))).map (!·) = some b -> wpAny (model X.prog X.w) X.A (compareOp .NotIn v u) (EP X pins σ Q) X.xe s := fun e => by
    cases e1 : zcx M dy with
    | none => rw [e1] at e; cases e
    | some ds =>
      rw [e1] at e
      cases e2 : inL (view M dx) ds with
      | none => rw [Option.bind_some, e2] at e; cases e
      | some k =>
        rw [Option.bind_some, e2] at e
        have e' := Option.some.inj e
        subst e'
        exact ztr hu I hM h1 h2 rx ry e1 e2 true ⟨.bl _, H, I, rfl, q⟩
  by_cases hs : (∃ a, dx = .str a) /\ ∃ c, dy = .str c
  · obtain ⟨⟨a, rfl⟩, c, rfl⟩ := hs
    have e : some (!zhh a c) = some b := e
    have e' := Option.some.inj e
    subst e'
    exact zo4 pins s σ H x y v u Q I rx ry ⟨a, c, h1, h2, q⟩
  · refine gen ?_
    cases dx <;> first | exact e | (cases dy <;> first | exact e | exact absurd ⟨⟨_, rfl⟩, _, rfl⟩ hs)
def zb2 : Cmp -> CmpOp
  | .eq => .Eq | .ne => .NotEq | .lt => .Lt | .le => .LtE | .gt => .Gt | .ge => .GtE | .isN => .Is | .notN => .IsNot | .isin => .In | .notin => .NotIn
theorem zj2 (hu : Rm X) : ∀ o : Cmp, OpR X (compareOp (zb2 o)) (zga fa X.K o)
  | .eq => c_eq hu | .ne => c_ne hu | .lt => c_lt | .le => c_le | .gt => c_gt | .ge => c_ge | .isN => c_isN | .notN => c_notN | .isin => c_in hu | .notin => zyw hu
def zjb (fa : Fa) (K : PySem.W.Frag) (m : Bool) (o : Bin) : R2 := fun x y H Q => ∃ μ M dx dy, RelM fa K μ H M /\ Rep fa K μ H dx x /\ Rep fa K μ H dy y /\ okE (ze2 m o dx dy M) (zbs fa K μ H Q)
theorem zbq {Q : VK} {d : D} {v : V} (hM : RelM fa X.K μ H M) (h : zbs fa X.K μ H Q d M) (r : Rep fa X.K μ H d v) : Q v H := h v H μ .refl hM r
theorem zf3 {Q : VK} {m : Bool} {ds : List D} {vs : List V} (hM : RelM fa X.K μ H M) (r : za0 fa X.K μ H ds vs) (h : okE (zb1 m ds M) (zbs fa X.K μ H Q)) : ds.length ≤ sz /\ ∀ p, H p = none -> Q (.ref p) (upd H p (.lst vs)) := by
  unfold zb1 at h
  split at h
  · next hz =>
    refine ⟨hz, fun p hp => ?_⟩
    cases m with
    | true =>
      have h : zbs fa X.K μ H Q (.cell M.length) (M ++ [ds]) := h
      exact h (.ref p) _ (zfu μ M.length p) (Ext.cell hM hp) (hM.cell hp r) ⟨p, rfl, by simp [zfu]⟩
    | false =>
      have h : zbs fa X.K μ H Q (.lst ds) M := h
      exact h (.ref p) _ μ (Ext.alloc hM hp) (hM.alloc hp) ⟨p, vs, rfl, ⟨zc8, hM.fresh hp⟩, r.ext (Ext.alloc hM hp)⟩
  · exact h.elim
theorem zgk {Q : VK} {ds : List D} {vs : List V} (hM : RelM fa X.K μ H M) (r : za0 fa X.K μ H ds vs) (h : zbs fa X.K μ H Q (.tup ds) M) : ∀ p, H p = none -> Q (.ref p) (upd H p (.tup vs)) := fun p hp =>
  h (.ref p) _ μ (Ext.alloc hM hp) (hM.alloc hp) ⟨p, vs, rfl, .of zc8, r.ext (Ext.alloc hM hp)⟩
theorem zes : sz = sizeLine := by rw [sizeLine_eq]; rfl
theorem zvc : OpR X (binaryOp .Add) (fun x y H Q => ∃ a b ys, x = .ref a /\ y = .ref b /\ SqT X.K H a [] /\ SqT X.K H b ys /\ Q (.ref b) H) := by
  intro pins s σ H x y v u Q I rx ry h
  obtain ⟨a, b, ys, rfl, rfl, ha, hb, q⟩ := h
  cases rx
  cases ry
  obtain ⟨its, r1, p1, _⟩ := I.tuple ha
  obtain ⟨its2, r2, p2, _⟩ := I.tuple hb
  cases r1
  obtain ⟨⟨cls, dd, data, sl⟩, ho, hc, n, hd⟩ := id p1
  obtain ⟨⟨cls2, dd2, data2, sl2⟩, ho2, hc2, n2, hd2⟩ := id p2
  simp only at hc hd hc2 hd2
  subst hc hd hc2 hd2
  exact concat_meets ⟨_, ho, rfl⟩ ⟨_, ho2, rfl⟩ noFill_tuple_add seq_tuple_add PySem.F.slot_tuple_add PySem.F.entry_tuple_add (PySem.F.args_tuple_add_2 _ _)
      (tuple_addW0 a b #[] its2.toArray n n2 dd dd2 sl sl2 rfl) ⟨ho, ho2, ⟨.ref b, H, I, rfl, q⟩⟩
theorem zvy {m : Bool} {x y : V} {v u : Value} {dx dy : D} {Q : VK} (I : Inv X pins σ H s) (hM : RelM fa X.K μ H M) (h1 : Rep fa X.K μ H dx x) (h2 : Rep fa X.K μ H dy y) (rx : RelV x v) (ry : RelV y u)
    (h : okE (match zhr M dx, zhr M dy with | some x, some y => zb1 m (x ++ y) M | _, _ => .bad) (zbs fa X.K μ H Q)) : wpAny (model X.prog X.w) X.A (binaryOp .Add v u) (EP X pins σ Q) X.xe s := by
  cases e1 : zhr M dx with
  | none => rw [e1] at h; exact h.elim
  | some xs =>
    cases e2 : zhr M dy with
    | none => rw [e1, e2] at h; exact h.elim
    | some ys =>
      rw [e1, e2] at h
      obtain ⟨a, vs, rfl, ha, ra⟩ := zhm hM h1 e1
      obtain ⟨b, ws, rfl, hb, rb⟩ := zhm hM h2 e2
      obtain ⟨hz, k⟩ := zf3 hM (ra.append rb) h
      refine op_cat pins s σ H _ _ v u Q I rx ry ⟨a, b, vs, ws, rfl, rfl, ha, hb, ?_, k⟩
      rw [ra.length, rb.length, <- List.length_append, <- zes]; exact hz
theorem b_add (m : Bool) : OpR X (binaryOp .Add) (zjb fa X.K m .add) := by
  intro pins s σ H x y v u Q I rx ry h
  obtain ⟨μ, M, dx, dy, hM, h1, h2, h⟩ := h
  have hi : ∀ i j, dx = .int i -> dy = .int j -> wpAny (model X.prog X.w) X.A (binaryOp .Add v u) (EP X pins σ Q) X.xe s := fun i j e1 e2 => by
    subst e1 e2
    exact op_add pins s σ H x y v u Q I rx ry ⟨i, j, h1, h2, zbq (v := .int (i + j)) hM h rfl⟩
  have hs : ∀ i j, dx = .str i -> dy = .str j -> wpAny (model X.prog X.w) X.A (binaryOp .Add v u) (EP X pins σ Q) X.xe s := fun i j e1 e2 => by
    subst e1 e2
    have h : okE (if i.cps.size + j.cps.size ≤ sz then .ok (.str ⟨i.cps ++ j.cps⟩) M else .bad) (zbs fa X.K μ H Q) := h
    split at h
    · next hz => exact zrh pins s σ H x y v u Q I rx ry ⟨i, j, h1, h2, by rw [<- zes]; exact hz, zbq (v := .str ⟨i.cps ++ j.cps⟩) hM h rfl⟩
    · exact h.elim
  have ht : ∀ i j, dx = .tup i -> dy = .tup j -> wpAny (model X.prog X.w) X.A (binaryOp .Add v u) (EP X pins σ Q) X.xe s := fun i j e1 e2 => by
    subst e1 e2
    have h : okE (if (i ++ j).length ≤ sz then .ok (.tup (i ++ j)) M else .bad) (zbs fa X.K μ H Q) := h
    split at h
    · next hz =>
      have h : zbs fa X.K μ H Q (.tup (i ++ j)) M := h
      obtain ⟨a, vs, e1, ha, ra⟩ := id h1
      obtain ⟨b, ws, e2, hb, rb⟩ := id h2
      by_cases h0 : i = []
      · subst h0
        obtain rfl : vs = [] := ra
        exact zvc pins s σ H x y v u Q I rx ry ⟨a, b, ws, e1, e2, ha, hb, zbq hM h ⟨b, ws, rfl, hb, rb⟩⟩
      · have hv : vs ≠ [] := fun z => h0 (by have := ra.length; rw [z] at this; exact List.length_eq_zero_iff.mp this.symm)
        refine zx4 pins s σ H x y v u Q I rx ry ⟨a, b, vs, ws, e1, e2, ha, hb, hv, ?_, fun z => ?_, fun _ => zgk hM (ra.append rb) h⟩
        · rw [ra.length, rb.length, <- List.length_append, <- zes]; exact hz
        · subst z
          have ej : j = [] := List.length_eq_zero_iff.mp rb.length.symm
          subst ej
          exact zbq hM h ⟨a, vs, rfl, ha, by simpa using ra⟩
    · exact h.elim
  cases dx <;> cases dy <;> first | exact hi _ _ rfl rfl | exact hs _ _ rfl rfl | exact ht _ _ rfl rfl | exact zvy (m := m) I hM h1 h2 rx ry h
theorem b_int {op : Operator} {o : Bin} {m : Bool} {C : Int -> Int -> Prop} {g : Int -> Int -> Int} (hr : OpR X (binaryOp op) (rI C fun i j => .int (g i j)))
    (hD : ∀ dx dy M (P : D -> Mem -> Prop), okE (ze2 m o dx dy M) P -> ∃ i j, dx = .int i /\ dy = .int j /\ C i j /\ P (.int (g i j)) M) : OpR X (binaryOp op) (zjb fa X.K m o) := zgx hr fun x y H Q h => by
  obtain ⟨μ, M, dx, dy, hM, h1, h2, h⟩ := h
  obtain ⟨i, j, rfl, rfl, c, q⟩ := hD dx dy M _ h
  exact ⟨i, j, h1, h2, c, zbq (v := .int (g i j)) hM q rfl⟩
theorem b_sub (m : Bool) : OpR X (binaryOp .Sub) (zjb fa X.K m .sub) := b_int (C := fun _ _ => True) (g := fun i j => i - j) (zgx op_sub fun x y H Q ⟨i, j, e1, e2, _, q⟩ => ⟨i, j, e1, e2, q⟩) fun dx dy M P h => by
  cases dx <;> cases dy <;> first | exact ⟨_, _, rfl, rfl, trivial, h⟩ | exact h.elim
theorem b_fdiv (m : Bool) : OpR X (binaryOp .FloorDiv) (zjb fa X.K m .fdiv) := b_int zx3 fun dx dy M P h => by
  have key : ∀ i j, dx = .int i -> dy = .int j -> ∃ i j, dx = .int i /\ dy = .int j /\ CDiv i j /\ P (.int (i / j)) M := fun i j e1 e2 => by
    subst e1 e2
    have h : okE (if 0 < j /\ j < 1073741824 then .ok (.int (i / j)) M else .bad) P := h
    split at h
    · next c => exact ⟨i, j, rfl, rfl, c, h⟩
    · exact h.elim
  cases dx <;> cases dy <;> first | exact key _ _ rfl rfl | exact h.elim
theorem b_mod (m : Bool) : OpR X (binaryOp .Mod) (zjb fa X.K m .mod) := b_int op_mod fun dx dy M P h => by
  have key : ∀ i j, dx = .int i -> dy = .int j -> ∃ i j, dx = .int i /\ dy = .int j /\ 0 < j /\ P (.int (i % j)) M := fun i j e1 e2 => by
    subst e1 e2
    have h : okE (if 0 < j then .ok (.int (i % j)) M else .bad) P := h
    split at h
    · next c => exact ⟨i, j, rfl, rfl, c, h⟩
    · exact h.elim
  cases dx <;> cases dy <;> first | exact key _ _ rfl rfl | exact h.elim
theorem b_pow (m : Bool) : OpR X (binaryOp .Pow) (zjb fa X.K m .pow) := b_int op_pow fun dx dy M P h => by
  have key : ∀ i j, dx = .int i -> dy = .int j -> ∃ i j, dx = .int i /\ dy = .int j /\ CPow i j /\ P (.int (i ^ j.toNat)) M := fun i j e1 e2 => by
    subst e1 e2
    have h : okE (if 0 ≤ j /\ j ≤ 1000000 /\ i.natAbs < 2 ^ 64 then .ok (.int (i ^ j.toNat)) M else .bad) P := h
    split at h
    · next c => exact ⟨i, j, rfl, rfl, c, h⟩
    · exact h.elim
  cases dx <;> cases dy <;> first | exact key _ _ rfl rfl | exact h.elim
theorem zuz {m : Bool} {x y : V} {v u : Value} {dx : D} {j : Int} {Q : VK} (I : Inv X pins σ H s) (hM : RelM fa X.K μ H M) (h1 : Rep fa X.K μ H dx x) (h2 : Rep fa X.K μ H (.int j) y) (rx : RelV x v) (ry : RelV y u)
    (h : okE (match zhr M dx with | some x => if x.length * j.toNat ≤ sz /\ -(2 ^ 63) ≤ j /\ j < 2 ^ 63 then zb1 m (List.replicate j.toNat x).flatten M else .bad | none => .bad) (zbs fa X.K μ H Q)) :
    wpAny (model X.prog X.w) X.A (binaryOp .Mult v u) (EP X pins σ Q) X.xe s := by
  cases e1 : zhr M dx with
  | none => rw [e1] at h; exact h.elim
  | some xs =>
    rw [e1] at h
    simp only at h
    split at h
    · next c =>
      obtain ⟨a, vs, rfl, ha, ra⟩ := zhm hM h1 e1
      obtain ⟨hz, k⟩ := zf3 hM (ra.rep j.toNat) h
      exact op_rep pins s σ H _ _ v u Q I rx ry ⟨a, j, vs, rfl, h2, ha, c.2.1, c.2.2, by rw [ra.length, <- zes]; exact c.1, k⟩
    · exact h.elim
end
end LD
namespace LD
open PySem PySem.Spec PyProof.Rows L2 PySem.Builtin
open PySem.Sem (wp)
theorem zkn : fillsNumberSlot (.type "tuple") "mul" = pure false :=
  PySem.fillsNumberSlot_seq (id := "tuple.__mul__") (r := some (.builtin "tuple.__rmul__")) F.slot_tuple_mul.lookup (by decide +kernel) F.slot_tuple_rmul.lookup (by decide +kernel)
theorem zov : seqRepeat? (.type "tuple") = pure (some (.builtin "tuple.__mul__")) := by
  unfold seqRepeat?
  rw [PySem.seqSlot_of (T := "tuple") (name := "__mul__") (id := "tuple.__mul__") F.slot_tuple_mul.lookup (by decide +kernel), PySem.seqSlot_of (T := "tuple") (name := "__rmul__") (id := "tuple.__rmul__") F.slot_tuple_rmul.lookup (by decide +kernel)]
  rfl
theorem zl8 (a : Int) (t : Tok) (l : Addr) (items : Array Value) (n : Nat) (dd : Option Addr) (sl : Array (Option Value)) :
    Meets (Builtin.«int.__rmul__» ⟨[.int a t, .ref l], []⟩) (fun _ R s => s.heap.get? l = some { cls := .type "tuple", dict := dd, data := .seq items n, slots := sl } /\ R (.ok (.ret Value.notImplemented)) s) :=
  .of_wp fun prog w A R s h => by obtain ⟨hp, g, d, tk, os⟩ := s; obtain ⟨hl, h⟩ := h; wp_walk using wpAny_loadPart' hl; exact ⟨_, rfl, h⟩
theorem zrg {x : Int} (h0 : -(2 ^ 63) ≤ x) (h1 : x < 2 ^ 63) : (decide (x < -2 ^ 63) || decide (x ≥ 2 ^ 63)) = false := by
  rw [decide_eq_false (by omega), decide_eq_false (by omega)]; rfl
theorem zmi (l : Addr) (items : Array Value) (n : Nat) (dd : Option Addr) (sl : Array (Option Value)) (x : Int) (u : Tok) (h0 : -(2 ^ 63) ≤ x) (h1 : x < 2 ^ 63) (hc : (items.isEmpty || x == 1) = true) :
    Meets (Builtin.«tuple.__mul__» ⟨[.ref l, .int x u], []⟩) (fun _ R s => s.heap.get? l = some { cls := .type "tuple", dict := dd, data := .seq items n, slots := sl } /\ R (.ok (.ret (.ref l))) s) :=
  .of_wp fun prog w A R s h => by
    obtain ⟨hp, g, d, tk, os⟩ := s; obtain ⟨hl, h⟩ := h; have f1 := AutoSeq1.idx_int
    wp_walk using wpAny_loadPart' hl
    refine wpAny_ite_false (by rw [zrg h0 h1]; rfl) ?_
    wp_walk using wpAny_loadPart' hl
    exact ⟨_, rfl, h⟩
theorem zmj (l : Addr) (items : Array Value) (n : Nat) (dd : Option Addr) (sl : Array (Option Value)) (x : Int) (u : Tok) (h0 : -(2 ^ 63) ≤ x) (h1 : x < 2 ^ 63) (hc : (items.isEmpty || x == 1) = false) (hc1 : (decide (x ≤ 0) || items.isEmpty) = true) :
    Meets (Builtin.«tuple.__mul__» ⟨[.ref l, .int x u], []⟩) (fun _ R s => s.heap.get? l = some { cls := .type "tuple", dict := dd, data := .seq items n, slots := sl } /\ R (.ok (.ret (.ref s.heap.objs.size))) { s with heap := s.heap.push { cls := Value.type "tuple", data := Data.seq #[] }, toks := s.toks }) :=
  .of_wp fun prog w A R s h => by
    obtain ⟨hp, g, d, tk, os⟩ := s; obtain ⟨hl, h⟩ := h; have f1 := AutoSeq1.idx_int
    wp_walk using wpAny_loadPart' hl
    refine wpAny_ite_false (by rw [zrg h0 h1]; rfl) ?_
    wp_walk using wpAny_loadPart' hl
    exact ⟨_, rfl, h⟩
theorem zmk (l : Addr) (items : Array Value) (n : Nat) (dd : Option Addr) (sl : Array (Option Value)) (x : Int) (u : Tok) (h0 : -(2 ^ 63) ≤ x) (h1 : x < 2 ^ 63) (hc : (items.isEmpty || x == 1) = false) (hc1 : (decide (x ≤ 0) || items.isEmpty) = false)
    (hs : (items.size : Int) * x ≤ 16777216) (hs2 : (List.foldl (fun x1 x2 => x1 ++ x2) #[] (List.replicate x.toNat items)).size ≤ sizeLine) :
    Meets (Builtin.«tuple.__mul__» ⟨[.ref l, .int x u], []⟩) (fun _ R s => s.heap.get? l = some { cls := .type "tuple", dict := dd, data := .seq items n, slots := sl } /\ R (.ok (.ret (.ref s.heap.objs.size))) { s with heap := s.heap.push { cls := Value.type "tuple", data := Data.seq (List.foldl (fun x1 x2 => x1 ++ x2) #[] (List.replicate x.toNat items)) }, toks := s.toks }) :=
  .of_wp fun prog w A R s h => by
    obtain ⟨hp, g, d, tk, os⟩ := s; obtain ⟨hl, h⟩ := h; have f1 := AutoSeq1.idx_int
    wp_walk using wpAny_loadPart' hl
    refine wpAny_ite_false (by rw [zrg h0 h1]; rfl) ?_
    wp_walk using wpAny_loadPart' hl
    refine wpAny_ite_false (decide_eq_false (by omega)) ?_
    wp_walk using wpAny_loadPart' hl
    refine wpAny_ite_false (decide_eq_false (by unfold Tuple.tupleTooMany; rw [sizeLine_eq]; simp; omega)) ?_
    wp_walk using wpAny_loadPart' hl
    exact ⟨_, rfl, h⟩
section
variable {fa : Fa} {X : Cx} {μ : Mu} {H : Hp} {σ : L2.St} {pins : List (Addr × Obj)} {s : Shared} {M : Mem}
theorem zm3 (its : List Value) (m : Nat) : List.foldl (fun x1 x2 => x1 ++ x2) #[] (List.replicate m its.toArray) = (List.replicate m its).flatten.toArray := by
  have := foldl_rep its m []
  rw [List.nil_append] at this
  exact this
theorem zx0 : OpR X (binaryOp .Mult) (fun x y H Q => ∃ l k xs, x = .ref l /\ y = .int k /\ SqT X.K H l xs /\ -(2 ^ 63) ≤ k /\ k < 2 ^ 63 /\ xs.length * k.toNat ≤ sz /\
    ((List.replicate k.toNat xs).flatten = xs -> Q (.ref l) H) /\ ∀ p, H p = none -> Q (.ref p) (upd H p (.tup (List.replicate k.toNat xs).flatten))) := by
  intro pins s σ H x y v u Q I rx ry h
  obtain ⟨l, k, xs, rfl, rfl, hq, h1, h2, hz, q1, q2⟩ := h
  cases rx
  obtain ⟨t, rfl⟩ := ry
  obtain ⟨its, r, p, hzz⟩ := I.tuple hq
  have hl := r.length
  obtain ⟨⟨cls, dd, data, sl⟩, ho, hc, n, hd⟩ := id p
  simp only at hc hd
  subst hc hd
  refine wpAny_binaryOp_repeat_ref (T := "tuple") (U := "int") (by decide) ⟨_, ho, rfl⟩ (fun s' => typeIs_int s' k t) zkn F.fills_int_mul F.slot_int_rmul zov F.slot_int_index.lookup
    (call_meets F.slot_int_rmul (typeIs_int s k t) F.entry_int_rmul (F.args_int_rmul_2 _ _) (zl8 k t l its.toArray n dd sl) ⟨ho, rfl, ⟨_, ho, rfl⟩, ?_⟩)
  have new : ∀ (its' : List Value), Vals (List.replicate k.toNat xs).flatten its' -> EP X pins σ Q (.ref s.heap.objs.size) { s with heap := s.heap.push { cls := Value.type "tuple", data := Data.seq its'.toArray } } := fun its' r' => by
    refine ⟨.ref s.heap.objs.size, _, I.laid (t' := s.toks) (o := .tup (List.replicate k.toNat xs).flatten) (fun b ob q => Heap.get?_push_of_some _ q) (Nat.le_refl _) ?_, rfl, q2 _ (I.hok.fresh (Nat.le_refl _))⟩
    exact ⟨by rw [len_rep, Nat.mul_comm, <- zes]; exact hz, _, r', IsTup.new _ _⟩
  by_cases c1 : (its.toArray.isEmpty || k == 1) = true
  · refine call_meets F.slot_tuple_mul ⟨_, ho, rfl⟩ F.entry_tuple_mul (F.args_tuple_mul_2 _ _) (zmi l its.toArray n dd sl k t h1 h2 c1) ⟨ho, ⟨.ref l, H, I, rfl, q1 ?_⟩⟩
    rcases Bool.or_eq_true_iff.mp c1 with z | z
    · have e : its = [] := by simpa using z
      subst e
      have e2 : xs = [] := List.length_eq_zero_iff.mp hl
      subst e2
      simp
    · have e : k = 1 := by simpa using z
      subst e
      simp
  · have c1' : (its.toArray.isEmpty || k == 1) = false := by simpa using c1
    by_cases c2 : (decide (k ≤ 0) || its.toArray.isEmpty) = true
    · refine call_meets F.slot_tuple_mul ⟨_, ho, rfl⟩ F.entry_tuple_mul (F.args_tuple_mul_2 _ _) (zmj l its.toArray n dd sl k t h1 h2 c1' c2) ⟨ho, new [] ?_⟩
      have hk : k ≤ 0 := by
        rcases Bool.or_eq_true_iff.mp c2 with z | z
        · simpa using z
        · rw [z] at c1'; cases c1'
      have hk0 : k.toNat = 0 := by omega
      rw [hk0]; exact .nil
    · have c2' : (decide (k ≤ 0) || its.toArray.isEmpty) = false := by simpa using c2
      have hk : 0 < k := by
        have := (Bool.or_eq_false_iff.mp c2').1
        simpa using this
      have hs : (its.toArray.size : Int) * k ≤ 16777216 := by
        have e1 : (its.toArray.size : Int) * k = ((xs.length * k.toNat : Nat) : Int) := by
          rw [List.size_toArray, <- hl, Int.natCast_mul, Int.toNat_of_nonneg (by omega)]
        rw [e1]
        have : xs.length * k.toNat ≤ 16777216 := hz
        omega
      have hs2 : (List.foldl (fun x1 x2 => x1 ++ x2) #[] (List.replicate k.toNat its.toArray)).size ≤ sizeLine := by
        rw [zm3, List.size_toArray, len_rep, Nat.mul_comm, <- hl, <- zes]; exact hz
      refine call_meets F.slot_tuple_mul ⟨_, ho, rfl⟩ F.entry_tuple_mul (F.args_tuple_mul_2 _ _) (zmk l its.toArray n dd sl k t h1 h2 c1' c2' hs hs2) ⟨ho, ?_⟩
      rw [zm3]
      exact new _ (r.rep k.toNat)
theorem b_mul (m : Bool) : OpR X (binaryOp .Mult) (zjb fa X.K m .mul) := by
  intro pins s σ H x y v u Q I rx ry h
  obtain ⟨μ, M, dx, dy, hM, h1, h2, h⟩ := h
  have hi : ∀ i j, dx = .int i -> dy = .int j -> wpAny (model X.prog X.w) X.A (binaryOp .Mult v u) (EP X pins σ Q) X.xe s := fun i j e1 e2 => by
    subst e1 e2
    have h : okE (if (-(2 ^ 64) < i /\ i < 2 ^ 64) \/ (-(2 ^ 64) < j /\ j < 2 ^ 64) then .ok (.int (i * j)) M else .bad) (zbs fa X.K μ H Q) := h
    split at h
    · next c => exact op_mul pins s σ H x y v u Q I rx ry ⟨i, j, h1, h2, c, zbq (v := .int (i * j)) hM h rfl⟩
    · exact h.elim
  have ht : ∀ i j, dx = .tup i -> dy = .int j -> wpAny (model X.prog X.w) X.A (binaryOp .Mult v u) (EP X pins σ Q) X.xe s := fun i j e1 e2 => by
    subst e1 e2
    have h : okE (if i.length * j.toNat ≤ sz /\ -(2 ^ 63) ≤ j /\ j < 2 ^ 63 then .ok (.tup (List.replicate j.toNat i).flatten) M else .bad) (zbs fa X.K μ H Q) := h
    split at h
    · next c =>
      have h : zbs fa X.K μ H Q (.tup (List.replicate j.toNat i).flatten) M := h
      obtain ⟨a, vs, e1, ha, ra⟩ := id h1
      refine zx0 pins s σ H x y v u Q I rx ry ⟨a, j, vs, e1, h2, ha, c.2.1, c.2.2, by rw [ra.length]; exact c.1, fun z => ?_, zgk hM (ra.rep j.toNat) h⟩
      refine zbq hM h ⟨a, vs, rfl, ha, ?_⟩
      have := ra.rep j.toNat
      rw [z] at this
      exact this
    · exact h.elim
  have hl : ∀ j, dy = .int j -> okE (match zhr M dx with | some x => if x.length * j.toNat ≤ sz /\ -(2 ^ 63) ≤ j /\ j < 2 ^ 63 then zb1 m (List.replicate j.toNat x).flatten M else .bad | none => .bad) (zbs fa X.K μ H Q) ->
      wpAny (model X.prog X.w) X.A (binaryOp .Mult v u) (EP X pins σ Q) X.xe s := fun j e1 h' => by
    subst e1
    exact zuz (m := m) I hM h1 h2 rx ry h'
  cases dy with
  | int j => cases dx <;> first | exact hi _ _ rfl rfl | exact ht _ _ rfl rfl | exact hl _ rfl h
  | _ => cases dx <;> exact h.elim
def binOp : Bin -> Operator
  | .add => .Add | .sub => .Sub | .mul => .Mult | .fdiv => .FloorDiv | .mod => .Mod | .pow => .Pow
theorem b_all (m : Bool) : ∀ o : Bin, OpR X (binaryOp (binOp o)) (zjb fa X.K m o)
  | .add => b_add m | .sub => b_sub m | .mul => b_mul m | .fdiv => b_fdiv m | .mod => b_mod m | .pow => b_pow m
end
end LD
namespace LD
open PySem PySem.Spec PyProof.Rows L2
section
variable {fa : Fa} {X : Cx} {μ : Mu} {H : Hp} {σ : L2.St} {pins : List (Addr × Obj)} {s : Shared} {M : Mem}
theorem ix_imp {r r' : R2} (h : IxR X r) (i : ∀ x y H Q, r' x y H Q -> r x y H Q) : IxR X r' := fun value slice pins s σ H x y v u Q I rx ry q hs => h value slice pins s σ H x y v u Q I rx ry (i x y H Q q) hs
def rIdx (fa : Fa) (K : PySem.W.Frag) : R2 := fun x y H Q => ∃ μ M dx dy d, RelM fa K μ H M /\ Rep fa K μ H dx x /\ Rep fa K μ H dy y /\ zgp dx dy M = some d /\ zbs fa K μ H Q d M
theorem zpf (n : Nat) (i : Int) : LD.ixN n i = L2.ixN n i := rfl
theorem i_all : IxR X (rIdx fa X.K) := ix_imp ix_seq fun x y H Q h => by
  obtain ⟨μ, M, dx, dy, d, hM, h1, h2, e, q⟩ := h
  have gen : ∀ i, dy = .int i -> ((zcx M dx).bind fun ds => (LD.ixN ds.length i).bind fun j => ds[j]?) = some d -> rIx X.K x y H Q := fun i e0 e' => by
    subst e0
    clear e
    have e := e'
    clear e'
    cases e1 : zcx M dx with
    | none => rw [e1] at e; cases e
    | some ds =>
      rw [e1, Option.bind_some] at e
      obtain ⟨a, vs, rfl, hq, r⟩ := zhl hM h1 e1
      cases e2 : LD.ixN ds.length i with
      | none => rw [e2] at e; cases e
      | some j =>
        rw [e2, Option.bind_some] at e
        obtain ⟨v, hv, rv⟩ := r.get e
        have he : atI vs i = some v := by
          unfold atI
          rw [r.length, <- zpf, e2]; exact hv
        rcases hq with hq | hq
        · exact .inl ⟨a, vs, i, v, rfl, h2, hq, he, zbq hM q rv⟩
        · exact .inr (.inl ⟨a, vs, i, v, rfl, h2, hq, he, zbq hM q rv⟩)
  have str : ∀ z i, dx = .str z -> dy = .int i -> rIx X.K x y H Q := fun z i e1 e2 => by
    subst e1 e2
    have e : (if z.cps.size ≤ sz then (LD.ixN z.cps.size i).bind fun j => (z.cps[j]?).map fun c => D.str ⟨#[c]⟩ else none) = some d := e
    split at e
    · next hz =>
      cases e2 : LD.ixN z.cps.size i with
      | none => rw [e2] at e; cases e
      | some j =>
        rw [e2, Option.bind_some] at e
        cases e3 : z.cps[j]? with
        | none => rw [e3] at e; cases e
        | some c =>
          rw [e3] at e
          have e4 : D.str ⟨#[c]⟩ = d := Option.some.inj e
          subst e4
          refine .inr (.inr ⟨z, i, c, h1, h2, by rw [<- zes]; exact hz, ?_, zbq hM q rfl⟩)
          unfold atI
          rw [show z.cps.toList.length = z.cps.size by simp, <- zpf, e2]
          simpa using e3
    · cases e
  cases dy with
  | int i => cases dx <;> first | exact str _ _ rfl rfl | exact gen _ rfl e
  | _ => cases dx <;> cases (show (none : Option D) = some d from e)
theorem sl_imp {r r' : V -> Option Int -> Option Int -> Hp -> VK -> Prop} (h : SlR X r) (i : ∀ x lo hi H Q, r' x lo hi H Q -> r x lo hi H Q) : SlR X r' := fun pins s σ H x v vl vu lo hi sl Q I rx hs pl pu q => h pins s σ H x v vl vu lo hi sl Q I rx hs pl pu (i x lo hi H Q q)
def zk9 : D -> Option (Option Int)
  | .non => some none
  | .int i => some (some i)
  | _ => none
theorem zkk (n d : Nat) (x : D) : LD.sIx n d x = (zk9 x).map (HT.sIx n d) := by
  cases x <;> rfl
theorem zol : SlR X (fun x lo hi H Q => ∃ a xs, x = .ref a /\ SqT X.K H a xs /\ (HT.sIx xs.length 0 lo = 0 /\ HT.sIx xs.length xs.length hi = xs.length) /\ Q (.ref a) H) := by
  intro pins s σ H x v vl vu lo hi sl Q I rx hs pl pu h
  obtain ⟨a, xs, rfl, hx, hw, q⟩ := h
  cases rx
  obtain ⟨its, r, ht, hz⟩ := I.tuple hx
  refine ⟨"tuple", _, PyProof.Rows.slot_tuple_getitem.lookup, ht.typeIs, ?_⟩
  have hlen : its.toArray.size = xs.length := by rw [List.size_toArray]; exact r.length.symm
  rw [<- hlen] at hw
  obtain ⟨os, hos, hcs, hds⟩ := id hs
  have hTs : s.TypeIs (.ref sl) "slice" := ⟨os, hos, hcs⟩
  unfold getItem
  try with_reducible refine wpAny_holding ?_
  first | refine wpAny_bind (wpAny_pure ?_) | skip
  refine wpAny_bind (wpAny_sequenceKey ht.typeIs (by decide) ?_)
  refine wpAny_bind (wpAny_callSpecial?_slot (name := Str.ofString "__getitem__") ht.typeIs PyProof.Rows.slot_tuple_getitem
    (wpAny_call_entry PyProof.Rows.slot_tuple_getitem ht.typeIs entry_tuple_getitem ?_ (args_tuple_getitem _ _)))
  show wpAny _ _ (Builtin.Tuple.tupleItemsOf (.ref a) >>= _) _ _ s
  refine wpAny_bind (tupleItemsOf_ ht ?_)
  refine wpAny_bind (wpAny_typeOf hTs ?_)
  rw [if_pos (by decide)]
  refine wpAny_bind (HT.zhk hs pl pu ?_)
  have hyes : (((HT.sIx its.toArray.size 0 lo : Nat) : Int) == 0 && (1 : Int) == 1 && (HT.sIx its.toArray.size its.toArray.size hi - HT.sIx its.toArray.size 0 lo) == its.toArray.size) = true := by
    rw [hw.1, hw.2]; simp
  show wpAny _ _ (if (((HT.sIx its.toArray.size 0 lo : Nat) : Int) == 0 && (1 : Int) == 1 && (HT.sIx its.toArray.size its.toArray.size hi - HT.sIx its.toArray.size 0 lo) == its.toArray.size) = true then _ else _) _ _ s
  rw [if_pos hyes]
  refine wpAny_bind (m := Builtin.Tuple.tupleIsExact (.ref a)) ?_
  unfold Builtin.Tuple.tupleIsExact
  refine wpAny_bind (wpAny_typeOf ht.typeIs ?_)
  refine wpAny_pure ?_
  rw [if_pos (by decide)]
  exact wpAny_bind (wpAny_rule (wpAny_pure ⟨_, rfl, wpAny_pure ⟨.ref a, H, I, rfl, q⟩⟩))
def rSlc (fa : Fa) (K : PySem.W.Frag) (m : Bool) : V -> Option Int -> Option Int -> Hp -> VK -> Prop := fun x lo hi H Q => ∃ μ M dx dl dh, RelM fa K μ H M /\ Rep fa K μ H dx x /\ zk9 dl = some lo /\ zk9 dh = some hi /\ okE (zgn m dx dl dh M) (zbs fa K μ H Q)
theorem zxa (m : Bool) : SlR X (rSlc fa X.K m) := by
  refine sl_imp (zxb.or (sl_tup.or zol)) fun x lo hi H Q h => ?_
  obtain ⟨μ, M, dx, dl, dh, hM, h1, e1, e2, h⟩ := h
  have gen : okE (match rdD M dx with
    | some xs => match LD.sIx xs.length 0 dl, LD.sIx xs.length xs.length dh with
      | some l, some h => zb1 m (cut xs l h) M
      | _, _ => .bad
    | none => .bad) (zbs fa X.K μ H Q) -> rSlL X.K x lo hi H Q := fun h => by
    cases e : rdD M dx with
    | none => rw [e] at h; exact h.elim
    | some xs =>
      rw [e] at h
      simp only [zkk, e1, e2, Option.map_some] at h
      obtain ⟨a, vs, rfl, hq, r⟩ := zcd hM h1 e
      have hl := r.length
      obtain ⟨_, k⟩ := zf3 hM ((r.drop (HT.sIx xs.length 0 lo)).take (HT.sIx xs.length xs.length hi - HT.sIx xs.length 0 lo)) h
      refine ⟨a, vs, rfl, hq, ?_⟩
      unfold zjl
      rw [hl]
      exact k
  have tup : ∀ xs, dx = .tup xs -> rSlT X.K x lo hi H Q \/ ∃ a xs, x = .ref a /\ SqT X.K H a xs /\ (HT.sIx xs.length 0 lo = 0 /\ HT.sIx xs.length xs.length hi = xs.length) /\ Q (.ref a) H := fun xs e => by
    subst e
    have h : okE (match LD.sIx xs.length 0 dl, LD.sIx xs.length xs.length dh with
      | some l, some h => .ok (.tup (cut xs l h)) M
      | _, _ => .bad) (zbs fa X.K μ H Q) := h
    simp only [zkk, e1, e2, Option.map_some] at h
    have h : zbs fa X.K μ H Q (.tup (cut xs (HT.sIx xs.length 0 lo) (HT.sIx xs.length xs.length hi))) M := h
    obtain ⟨a, vs, rfl, hq, r⟩ := h1
    have hl := r.length
    by_cases hw : HT.sIx vs.length 0 lo = 0 /\ HT.sIx vs.length vs.length hi = vs.length
    · refine .inr ⟨a, vs, rfl, hq, hw, ?_⟩
      rw [hl] at hw
      have e3 : cut xs (HT.sIx xs.length 0 lo) (HT.sIx xs.length xs.length hi) = xs := by rw [hw.1, hw.2]; simp [cut]
      rw [e3] at h
      exact zbq hM h ⟨a, vs, rfl, hq, r⟩
    · refine .inl ⟨a, vs, rfl, hq, hw, ?_⟩
      have k := zgk hM ((r.drop (HT.sIx xs.length 0 lo)).take (HT.sIx xs.length xs.length hi - HT.sIx xs.length 0 lo)) h
      unfold zjl
      rw [hl]
      exact k
  cases dx <;> first | exact .inr (tup _ rfl) | exact .inl (gen h)
def rBlt (fa : Fa) (K : PySem.W.Frag) (f : Blt) : List V -> Hp -> VK -> Prop := fun vs H Q => ∃ μ M ds, RelM fa K μ H M /\ za0 fa K μ H ds vs /\ okE (zfk f ds M) (zbs fa K μ H Q)
theorem zn0 {d : D} {vs : List V} {K : PySem.W.Frag} (h : za0 fa K μ H [d] vs) : ∃ v, vs = [v] /\ Rep fa K μ H d v := by
  obtain ⟨v, r, rfl, h1, h2⟩ := h
  obtain rfl : r = [] := h2
  exact ⟨v, rfl, h1⟩
theorem f_len : zdl X (.builtin "len") (rBlt fa X.K .len) := ziz (zps.or zpr) fun vs H Q h => by
  obtain ⟨μ, M, ds, hM, r, h⟩ := h
  match ds, r, h with
  | [], _, h => exact h.elim
  | d :: _ :: _, _, h => cases d <;> exact h.elim
  | [d], r, h =>
    obtain ⟨v, rfl, hv⟩ := zn0 r
    have gen : okE (match zcx M d with | some xs => .ok (.int xs.length) M | none => .bad) (zbs fa X.K μ H Q) -> ∃ p ys, [v] = [.ref p] /\ (SqL X.K H p ys \/ SqT X.K H p ys) /\ Q (.int ys.length) H := fun h => by
      cases e : zcx M d with
      | none => rw [e] at h; exact h.elim
      | some xs =>
        rw [e] at h
        obtain ⟨a, vs, rfl, hq, r⟩ := zhl hM hv e
        refine ⟨a, vs, rfl, hq, ?_⟩
        rw [r.length]
        exact zbq (v := .int xs.length) hM h rfl
    have str : ∀ x, d = .str x -> ∃ z, [v] = [V.str z] /\ z.length ≤ sizeLine /\ Q (.int z.length) H := fun x e => by
      subst e
      have h : okE (if x.cps.size ≤ sz then .ok (.int x.cps.size) M else .bad) (zbs fa X.K μ H Q) := h
      split at h
      · next c => exact ⟨x, by rw [show v = .str x from hv], by rw [<- zes]; exact c, zbq (v := .int x.cps.size) hM h rfl⟩
      · exact h.elim
    cases d <;> first | exact .inr (str _ rfl) | exact .inl (gen h)
theorem zye : zdl X (.type "tuple") (rBlt fa X.K .tuple) := ziz znp fun vs H Q h => by
  obtain ⟨μ, M, ds, hM, r, h⟩ := h
  match ds, r, h with
  | [], _, h => exact h.elim
  | d :: _ :: _, _, h => cases d <;> exact h.elim
  | [d], r, h =>
    obtain ⟨v, rfl, hv⟩ := zn0 r
    have gen : okE (match rdD M d with | some xs => .ok (.tup xs) M | none => .bad) (zbs fa X.K μ H Q) -> ∃ p ys, [v] = [.ref p] /\ ((SqL X.K H p ys /\ ∀ l, H l = none -> Q (.ref l) (upd H l (.tup ys))) \/ (SqT X.K H p ys /\ Q (.ref p) H)) := fun h => by
      cases e : rdD M d with
      | none => rw [e] at h; exact h.elim
      | some xs =>
        rw [e] at h
        obtain ⟨a, vs, rfl, hq, r⟩ := zcd hM hv e
        exact ⟨a, vs, rfl, .inl ⟨hq, zgk hM r h⟩⟩
    have tup : ∀ x, d = .tup x -> ∃ p ys, [v] = [.ref p] /\ ((SqL X.K H p ys /\ ∀ l, H l = none -> Q (.ref l) (upd H l (.tup ys))) \/ (SqT X.K H p ys /\ Q (.ref p) H)) := fun x e => by
      subst e
      obtain ⟨a, vs, rfl, hq, r⟩ := id hv
      exact ⟨a, vs, rfl, .inr ⟨hq, zbq hM h hv⟩⟩
    cases d <;> first | exact tup _ rfl | exact gen h
theorem f_list (m : Bool) : zdl X (.type "list") (rBlt fa X.K (.list m)) := ziz zpq fun vs H Q h => by
  obtain ⟨μ, M, ds, hM, r, h⟩ := h
  match ds, r, h with
  | [], _, h => exact h.elim
  | _ :: _ :: _, _, h => exact h.elim
  | [d], r, h =>
    obtain ⟨v, rfl, hv⟩ := zn0 r
    have h : okE (match zcx M d with | some xs => zb1 m xs M | none => .bad) (zbs fa X.K μ H Q) := h
    cases e : zcx M d with
    | none => rw [e] at h; exact h.elim
    | some xs =>
      rw [e] at h
      obtain ⟨a, vs, rfl, hq, r⟩ := zhl hM hv e
      obtain ⟨_, k⟩ := zf3 hM r h
      exact ⟨a, vs, rfl, hq, k⟩
end
end LD
namespace LD
open PySem PySem.Spec PyProof.Rows L2
section
variable {fa : Fa} {X : Cx} {μ : Mu} {H : Hp} {σ : L2.St} {pins : List (Addr × Obj)} {s : Shared} {M : Mem}
theorem truV {d : D} {v : V} {k : Bool} (hM : RelM fa X.K μ H M) (h : Rep fa X.K μ H d v) (e : zh2 M d = some k) : TruV X.K v H k := by
  cases d with
  | non => obtain rfl : v = .non := h; exact (Option.some.inj e).symm
  | bl b => obtain rfl : v = .bl b := h; exact (Option.some.inj e).symm
  | int i => obtain rfl : v = .int i := h; exact (Option.some.inj e).symm
  | str x =>
    obtain rfl : v = .str x := h
    have e : (if x.cps.size ≤ sz then some (x.cps.size != 0) else none) = some k := e
    split at e
    · next c =>
      refine ⟨by rw [<- zes]; exact c, ?_⟩
      rw [<- Option.some.inj e]
      show (x.cps.size != 0) = ((x.cps.size : Int) != 0)
      rw [Bool.eq_iff_iff]; simp
    · cases e
  | tup ds =>
    obtain ⟨a, vs, rfl, hq, r⟩ := h
    refine .inr (.inl ⟨vs, hq, ?_⟩)
    rw [<- Option.some.inj e]
    have := r.length
    cases vs <;> cases ds <;> simp_all
  | lst ds =>
    obtain ⟨a, vs, rfl, hq, r⟩ := zcd (ds := ds) hM h rfl
    refine .inl ⟨vs, hq, ?_⟩
    rw [<- Option.some.inj e]
    have := r.length
    cases vs <;> cases ds <;> simp_all
  | frz ds =>
    obtain ⟨a, vs, rfl, hq, r⟩ := zcd (ds := ds) hM h rfl
    refine .inl ⟨vs, hq, ?_⟩
    rw [<- Option.some.inj e]
    have := r.length
    cases vs <;> cases ds <;> simp_all
  | cell c =>
    have e : (M[c]?).map (fun ds => !ds.isEmpty) = some k := e
    cases e1 : M[c]? with
    | none => rw [e1] at e; cases e
    | some ds =>
      rw [e1] at e
      obtain ⟨a, vs, rfl, hq, r⟩ := zcd (ds := ds) hM h e1
      refine .inl ⟨vs, hq, ?_⟩
      rw [<- Option.some.inj e]
      have := r.length
      cases vs <;> cases ds <;> simp_all
  | fn f => cases e
theorem zsu : ∀ {ds : List D} {bs : List Bool} {vs : List V} {us : List Value}, boolsOf ds = some bs -> za0 fa X.K μ H ds vs -> Vals vs us -> PyProof.Rows.LSm.BoolsAre us bs := by
  intro ds
  induction ds with
  | nil =>
    intro bs vs us e h r
    obtain rfl : vs = [] := h
    cases r; cases e
    exact .nil
  | cons d ds ih =>
    intro bs vs us e h r
    obtain ⟨v, vr, rfl, h1, h2⟩ := h
    cases r with
    | cons r1 r2 =>
      cases d with
      | bl b =>
        have e : (boolsOf ds).map (b :: ·) = some bs := e
        cases e1 : boolsOf ds with
        | none => rw [e1] at e; cases e
        | some cs =>
          rw [e1] at e
          have e2 : b :: cs = bs := Option.some.inj e
          subst e2
          obtain rfl : v = .bl b := h1
          obtain rfl : _ = Value.bool b := r1
          exact .cons b (ih e1 h2 r2)
      | _ => cases e
theorem zmp : zdl X (.builtin "all") (fun xs H Q => ∃ μ ds bs p vs, xs = [.ref p] /\ X.calm = true /\ SqL X.K H p vs /\ za0 fa X.K μ H ds vs /\ boolsOf ds = some bs /\ Q (.bl (bs.all id)) H) := by
  intro pins s σ H xs us Q I r h
  obtain ⟨μ, ds, bs, p, vs, rfl, hc, hq, rl, eb, q⟩ := h
  obtain ⟨u, rfl, rx⟩ := vals1 r
  cases rx
  obtain ⟨its, rv, pl, hz⟩ := I.list hq
  have hb := zsu eb rl rv
  have hlt : p < s.heap.objs.size := pl.lt
  refine call_all_walk (wpAny_pyIter_list pl.isList ?_)
  refine ⟨s.heap.objs.size, [s.heap.objs.size, p], [s.heap.objs.size], its.toArray.size, _, _, fun i => (bs[i]?).getD true, rfl, Walks.list (A := X.A.in1) (I.ok.hd hc) _ p (Nat.ne_of_lt hlt) its.toArray,
    ⟨⟨_, Heap.get?_push_size _ rfl, rfl, rfl⟩, pl.isList.push _⟩, fun i v s' Q' E' hP hQ => ?_, fun h' tk hk => ?_⟩
  · obtain ⟨b, e, rfl⟩ := hb.get i v (by simpa using hP)
    simp only [e, Option.getD_some] at hQ
    exact wpAny_truthy_bool hQ
  · have e : ((List.range its.toArray.size).all fun i => (bs[i]?).getD true) = bs.all id := by
      rw [List.size_toArray, hb.length]; exact PyProof.Rows.LSm.range_all bs
    rw [e]
    exact ⟨.bl _, H, I.kept (PyProof.Rows.LSm.kept_iter hk), rfl, q⟩
theorem f_all (hc : X.calm = true) : zdl X (.builtin "all") (rBlt fa X.K .all) := ziz (zmp (fa := fa)) fun vs H Q h => by
  obtain ⟨μ, M, ds, hM, r, h⟩ := h
  match ds, r, h with
  | [], _, h => exact h.elim
  | d :: _ :: _, _, h => exact h.elim
  | [d], r, h =>
    obtain ⟨v, rfl, hv⟩ := zn0 r
    have h : okE (match rdD M d with | some xs => (match boolsOf xs with | some bs => .ok (.bl (bs.all id)) M | none => .bad) | none => .bad) (zbs fa X.K μ H Q) := h
    cases e : rdD M d with
    | none => rw [e] at h; exact h.elim
    | some xs =>
      rw [e] at h
      simp only at h
      cases e2 : boolsOf xs with
      | none => rw [e2] at h; exact h.elim
      | some bs =>
        rw [e2] at h
        obtain ⟨a, vs, rfl, hq, r⟩ := zcd hM hv e
        exact ⟨μ, xs, bs, a, vs, rfl, hc, hq, r, e2, zbq (v := .bl (bs.all id)) hM h rfl⟩
def tyName : Ty -> String
  | .int => "int" | .bool => "bool" | .str => "str" | .tuple => "tuple" | .list => "list" | .own _ => ""
def tyD : D -> String
  | .non => "NoneType" | .bl _ => "bool" | .int _ => "int" | .str _ => "str" | .tup _ => "tuple" | _ => "list"
theorem ty_of (t : Ty) (d : D) (b : Bool) (ht : ∀ c, t ≠ .own c) (e : zbo t d = some b) : PySem.W.kitOne X.K (.type (tyD d)) (.type (tyName t)) = some b := by
  cases t with
  | own c => exact absurd rfl (ht c)
  | _ => cases d <;> first | (cases (show (none : Option Bool) = some b from e)) | (have e' := Option.some.inj e; subst e'; (first | rfl | decide +kernel))
theorem zul {d : D} {v : V} {b : Bool} {t : Ty} (hM : RelM fa X.K μ H M) (h : Rep fa X.K μ H d v) (e : zbo t d = some b) (I : Inv X pins σ H s) {u c : Value} (r : RelV v u) {Q : Value -> Shared -> Prop}
    (ek : PySem.W.kitOne X.K (.type (tyD d)) c = some b) (q : ∀ tk, Q (.bool b) { s with toks := tk }) : wpAny (model X.prog X.w) X.A (call (.builtin "isinstance") [u, c]) Q X.xe s := by
  cases d with
  | non => obtain rfl : v = .non := h; exact zhw I r .non ek q
  | bl x => obtain rfl : v = .bl x := h; exact zhw I r (.bl x) ek q
  | int x => obtain rfl : v = .int x := h; exact zhw I r (.int x) ek q
  | str x => obtain rfl : v = .str x := h; exact zhw I r (.str x) ek q
  | tup ds =>
    obtain ⟨a, vs, rfl, hq, _⟩ := h
    obtain rfl : u = Value.ref a := r
    obtain ⟨its, rv, ⟨o, h1, h2, _⟩, _⟩ := I.tuple hq
    exact PySem.W.kia_one PySem.W.kitx_tuple I.kIn ⟨o, h1, h2⟩ ek (fun z => nomatch z) q
  | lst ds =>
    obtain ⟨a, vs, rfl, hq, _⟩ := zcd (ds := ds) hM h rfl
    obtain rfl : u = Value.ref a := r
    obtain ⟨its, rv, ⟨o, n, h1, h2, _⟩, _⟩ := I.list hq
    exact PySem.W.kia_one PySem.W.kitx_list I.kIn ⟨o, h1, h2⟩ ek (fun z => nomatch z) q
  | frz ds =>
    obtain ⟨a, vs, rfl, hq, _⟩ := zcd (ds := ds) hM h rfl
    obtain rfl : u = Value.ref a := r
    obtain ⟨its, rv, ⟨o, n, h1, h2, _⟩, _⟩ := I.list hq
    exact PySem.W.kia_one PySem.W.kitx_list I.kIn ⟨o, h1, h2⟩ ek (fun z => nomatch z) q
  | cell k =>
    obtain ⟨a, rfl, hk⟩ := h
    obtain ⟨ds, vs, _, hq, _⟩ := hM.mu_lt hk
    obtain rfl : u = Value.ref a := r
    obtain ⟨its, rv, ⟨o, n, h1, h2, _⟩, _⟩ := I.list (SqL.of hq)
    exact PySem.W.kia_one PySem.W.kitx_list I.kIn ⟨o, h1, h2⟩ ek (fun z => nomatch z) q
  | fn f => cases e
def rInst (fa : Fa) (K : PySem.W.Frag) (t : Ty) : List V -> Hp -> VK -> Prop := fun vs H Q => ∃ μ M d v b, vs = [v, .ty (tyName t)] /\ RelM fa K μ H M /\ Rep fa K μ H d v /\ zbo t d = some b /\ Q (.bl b) H
theorem f_inst (t : Ty) (ht : ∀ c, t ≠ .own c) : zdl X (.builtin "isinstance") (rInst fa X.K t) := by
  intro pins s σ H xs us Q I r h
  obtain ⟨μ, M, d, v, b, rfl, hM, hv, e, q⟩ := h
  obtain ⟨u, w, rfl, r1, r2⟩ := vals2 r
  obtain rfl : w = Value.type (tyName t) := r2
  exact zul hM hv e I r1 (ty_of t d b ht e) fun tk => ⟨.bl b, H, I.tok _, rfl, q⟩
end
end LD
namespace LD
open PySem PySem.Spec PyProof.Rows L2
section
variable {fa : Fa} {X : Cx}
abbrev DE (fa : Fa) (X : Cx) (e : PySem.Expr) (g : Env -> Mem -> Res D) : Prop := PE X e (tE fa X.K g)
abbrev DT (fa : Fa) (X : Cx) (e : PySem.Expr) (g : Env -> Mem -> Res Bool) : Prop := PT X e (tT fa X.K g)
abbrev DW (fa : Fa) (X : Cx) (e : PySem.Expr) (g : Env -> Mem -> Res Bool) : Prop := PW X e (tT fa X.K g)
abbrev DA (fa : Fa) (X : Cx) (es : List PySem.Expr) (g : Env -> Mem -> Res (List D)) : Prop := PA X es (tA fa X.K g)
abbrev DS (fa : Fa) (X : Cx) (st : PySem.Stmt) (g : Env -> Mem -> Res Fl) : Prop := PS X st (tF fa X.K g)
abbrev DSs (fa : Fa) (X : Cx) (st : List PySem.Stmt) (g : Env -> Mem -> Res Fl) : Prop := PSs X st (tF fa X.K g)
variable {a b d : PySem.Expr} {ga gb gd : Env -> Mem -> Res D} {pos : Pos}
theorem d_var {i : Nat} {x : Str} (hN : X.N[i]? = some x) (hv : Vis X.env.scope x) (hd : (x == ("__debug__" : Str)) = false) (hcd : (x == ("__classdict__" : Str)) = false) :
    DE fa X (.Name x pos) (fun ρ M => ofO M (ρ[i]?.getD none)) := zc0 (zox hN hv hd hcd) fun σ H Q ⟨μ, ρ, M, hE, hM, h⟩ => by
  obtain ⟨d, e, w⟩ := zju h
  have e' : ρ[i]? = some (some d) := by
    cases q : ρ[i]? with
    | none => rw [q] at e; cases e
    | some o => rw [q] at e; simp at e; rw [e]
  obtain ⟨v, h1, h2⟩ := hE.at' i d e'
  exact ⟨v, h1, zbq hM w h2⟩
theorem zij {e : PySem.Expr} {dc : D} {v : V} (h : PE X e (tC v)) (r : ∀ μ H, Rep fa X.K μ H dc v) : DE fa X e (fun _ M => .ok dc M) := zc0 h fun σ H Q ⟨μ, ρ, M, hE, hM, h⟩ => zbq hM h (r μ H)
theorem d_int {i : Int} {j : Nat} : DE fa X (.Constant (.int i) j pos) (fun _ M => .ok (.int i) M) := zij (v := .int i) zs2 fun _ _ => rfl
theorem d_bl {i : Bool} {j : Nat} : DE fa X (.Constant (.bool i) j pos) (fun _ M => .ok (.bl i) M) := zij (v := .bl i) pe_bl fun _ _ => rfl
theorem d_str {i : Str} {j : Nat} : DE fa X (.Constant (.str i) j pos) (fun _ M => .ok (.str i) M) := zij (v := .str i) pe_str fun _ _ => rfl
theorem d_non {j : Nat} : DE fa X (.Constant .none j pos) (fun _ M => .ok .non M) := zij (v := .non) pe_non fun _ _ => rfl
theorem t2 {μ : Mu} {H : Hp} {σ : L2.St} {ρ : Env} {M : Mem} {β : Type} {f : D -> D -> Mem -> Res β} {P : β -> Mem -> Prop} {R : V -> V -> Hp -> Prop} (hE : zbr fa X.K μ H σ ρ) (hM : RelM fa X.K μ H M)
    (h : okE ((ga ρ M).bind fun x M => (gb ρ M).bind fun y M => f x y M) P)
    (k : ∀ x y M2 v u H2 μ2, Ext μ H μ2 H2 -> zbr fa X.K μ2 H2 σ ρ -> RelM fa X.K μ2 H2 M2 -> Rep fa X.K μ2 H2 x v -> Rep fa X.K μ2 H2 y u -> okE (f x y M2) P -> R v u H2) :
    tE fa X.K ga σ H fun v H1 => tE fa X.K gb σ H1 fun u H2 => R v u H2 :=
  t1 hE hM h fun x M1 v H1 μ1 x1 hE1 hM1 r1 h1 => t1 hE1 hM1 h1 fun y M2 u H2 μ2 x2 hE2 hM2 r2 h2 => k x y M2 v u H2 μ2 (x1.trans x2) hE2 hM2 (r1.ext x2) r2 h2
theorem d_bin (m : Bool) (o : Bin) (ha : DE fa X a ga) (hb : DE fa X b gb) : DE fa X (.BinOp a (binOp o) b pos) (fun ρ M => (ga ρ M).bind fun x M => (gb ρ M).bind fun y M => ze2 m o x y M) :=
  zc0 (pe_op (b_all m o) ha hb) fun σ H Q ⟨μ, ρ, M, hE, hM, h⟩ => t2 hE hM h fun x y M2 v u H2 μ2 x2 hE2 hM2 r1 r2 h2 => ⟨μ2, M2, x, y, hM2, r1, r2, okW h2 x2⟩
theorem zlh {r : Option Bool} {M : Mem} {P : D -> Mem -> Prop} (h : okE ((ofO M r).bind fun b M => .ok (.bl b) M) P) : ∃ b, r = some b /\ P (.bl b) M := by
  obtain ⟨b, M1, e, q⟩ := zbd h
  cases r with
  | none => cases e
  | some b' => cases e; exact ⟨_, rfl, q⟩
theorem d_cmp (hu : Rm X) (o : Cmp) (ha : DE fa X a ga) (hb : DE fa X b gb) (hm : behindInMarks (zb2 o) b = false) :
    DE fa X (.Compare a [zb2 o] [b] pos) (fun ρ M => (ga ρ M).bind fun x M => (gb ρ M).bind fun y M => (ofO M (zb4 o x y M)).bind fun b M => .ok (.bl b) M) :=
  zc0 (zxx (zj2 hu o) ha hb hm) fun σ H Q ⟨μ, ρ, M, hE, hM, h⟩ => t2 hE hM h fun x y M2 v u H2 μ2 x2 hE2 hM2 r1 r2 h2 => by
    obtain ⟨b, e, q⟩ := zlh h2
    exact ⟨μ2, M2, x, y, b, hM2, r1, r2, e, zbq (v := .bl b) hM2 (q.ext x2) rfl⟩
theorem dt_cmp (hu : Rm X) (o : Cmp) (ha : DE fa X a ga) (hb : DE fa X b gb) (hm : behindInMarks (zb2 o) b = false) :
    DT fa X (.Compare a [zb2 o] [b] pos) (fun ρ M => ((ga ρ M).bind fun x M => (gb ρ M).bind fun y M => (ofO M (zb4 o x y M)).bind fun b M => .ok (.bl b) M).bind fun x M => ofO M (zh2 M x)) :=
  zif (zma (zj2 hu o) ha hb hm) fun σ H Q ⟨μ, ρ, M, hE, hM, h⟩ => by
    obtain ⟨z, M3, e, q⟩ := zbd h
    have h' : okE ((ga ρ M).bind fun x M => (gb ρ M).bind fun y M => (ofO M (zb4 o x y M)).bind fun b M => .ok (.bl b) M) (fun d M => d = z /\ M = M3) := by rw [e]; exact ⟨rfl, rfl⟩
    refine t2 hE hM h' fun x y M2 v u H2 μ2 x2 hE2 hM2 r1 r2 h2 => ?_
    obtain ⟨b, e1, e2, e3⟩ := zlh h2
    subst e2 e3
    exact ⟨μ2, M2, x, y, b, hM2, r1, r2, e1, b, rfl, q H2 μ2 x2 hM2⟩
theorem zw1 {g : Env -> Mem -> Res D} {σ : L2.St} {H : Hp} {Q : Bool -> Hp -> Prop} (hb : ∀ ρ M x M', g ρ M = .ok x M' -> ∃ k, x = .bl k) (h : tT fa X.K (fun ρ M => (g ρ M).bind fun x M => ofO M (zh2 M x)) σ H Q) :
    tE fa X.K g σ H (fun x H' => ∃ k, x = .bl k /\ Q k H') := by
  obtain ⟨μ, ρ, M, hE, hM, h⟩ := h
  obtain ⟨x, M1, e, q⟩ := zbd h
  obtain ⟨k, rfl⟩ := hb ρ M x M1 e
  refine ⟨μ, ρ, M, hE, hM, ?_⟩
  rw [e]
  intro v H1 μ1 x1 m1 r1
  obtain rfl : v = .bl k := r1
  exact ⟨k, rfl, q H1 μ1 x1 m1⟩
theorem i_chn {o o' : Cmp} {gc : Env -> Mem -> Res D} (σ : L2.St) (H : Hp) (Q : VK) : tE fa X.K (fun ρ M => (ga ρ M).bind fun x M => (gb ρ M).bind fun y M => (ofO M (zb4 o x y M)).bind fun k M =>
      if k then (gc ρ M).bind fun z M => (ofO M (zb4 o' y z M)).bind fun b M => .ok (.bl b) M else .ok (.bl false) M) σ H Q -> zoh (zga fa X.K o) (zga fa X.K o') (tE fa X.K ga) (tE fa X.K gb) (tE fa X.K gc) σ H Q := fun ⟨μ, ρ, M, hE, hM, h⟩ => by
  refine t2 hE hM h fun x y M2 v u H2 μ2 x2 hE2 hM2 r1 r2 h2 => ?_
  obtain ⟨k, M3, e, q⟩ := zbd h2
  cases ec : zb4 o x y M2 with
  | none => rw [ec] at e; cases e
  | some k' =>
    rw [ec] at e
    cases e
    refine ⟨μ2, _, x, y, k, hM2, r1, r2, ec, k, rfl, ?_⟩
    cases k with
    | false => exact zbq (v := .bl false) hM2 (zbs.ext q x2) rfl
    | true =>
      refine t1 hE2 hM2 q fun z M4 w H4 μ4 x4 hE4 hM4 r4 h4 => ?_
      obtain ⟨b, e4, q4⟩ := zlh h4
      exact ⟨μ4, M4, y, z, b, hM4, r2.ext x4, r4, e4, zbq (v := .bl b) hM4 (q4.ext (x2.trans x4)) rfl⟩
theorem d_chn (hu : Rm X) (o o' : Cmp) {gc : Env -> Mem -> Res D} (ha : DE fa X a ga) (hb : DE fa X b gb) (hc : DE fa X d gc) (hm : lastMarks [zb2 o, zb2 o'] [b, d] = false) :
    DE fa X (.Compare a [zb2 o, zb2 o'] [b, d] pos) (fun ρ M => (ga ρ M).bind fun x M => (gb ρ M).bind fun y M => (ofO M (zb4 o x y M)).bind fun k M =>
      if k then (gc ρ M).bind fun z M => (ofO M (zb4 o' y z M)).bind fun b M => .ok (.bl b) M else .ok (.bl false) M) := zc0 (zu9 (zj2 hu o) (zj2 hu o') ha hb hc hm) i_chn
theorem zvd {r : Option Bool} {M M' : Mem} {x : D} (h : ((ofO M r).bind fun b M => Res.ok (.bl b) M) = .ok x M') : ∃ k, x = .bl k := by
  cases r with
  | none => cases h
  | some b => cases h; exact ⟨b, rfl⟩
theorem zd9 {α β : Type} {r : Res α} {f : α -> Mem -> Res β} {x : β} {M : Mem} (h : r.bind f = .ok x M) : ∃ a M1, r = .ok a M1 /\ f a M1 = .ok x M := by
  cases r with
  | ok a M1 => exact ⟨a, M1, rfl, h⟩
  | err => cases h
  | bad => cases h
theorem dt_chn (hu : Rm X) (o o' : Cmp) {gc : Env -> Mem -> Res D} (ha : DE fa X a ga) (hb : DE fa X b gb) (hc : DE fa X d gc) (hm : lastMarks [zb2 o, zb2 o'] [b, d] = false) :
    DT fa X (.Compare a [zb2 o, zb2 o'] [b, d] pos) (fun ρ M => ((ga ρ M).bind fun x M => (gb ρ M).bind fun y M => (ofO M (zb4 o x y M)).bind fun k M =>
      if k then (gc ρ M).bind fun z M => (ofO M (zb4 o' y z M)).bind fun b M => .ok (.bl b) M else .ok (.bl false) M).bind fun x M => ofO M (zh2 M x)) :=
  zif (zu4 (zj2 hu o) (zj2 hu o') ha hb hc hm) fun σ H Q h => i_chn σ H _ (zw1 (fun ρ M x M' e => by
    obtain ⟨x1, M1, _, e⟩ := zd9 e
    obtain ⟨x2, M2, _, e⟩ := zd9 e
    obtain ⟨k, M3, _, e⟩ := zd9 e
    cases k with
    | false => cases e; exact ⟨_, rfl⟩
    | true =>
      obtain ⟨x4, M4, _, e⟩ := zd9 e
      exact zvd e) h)
theorem d_neg (ha : DE fa X a ga) : DE fa X (.UnaryOp .USub a pos) (fun ρ M => (ga ρ M).bind fun x M => match x with | .int i => .ok (.int (-i)) M | _ => .bad) :=
  zc0 (pe_un zsd ha) fun σ H Q ⟨μ, ρ, M, hE, hM, h⟩ => t1 hE hM h fun x M1 v H1 μ1 x1 hE1 hM1 r1 h1 => by
    cases x with
    | int i => exact ⟨i, r1, zbq (v := .int (-i)) hM1 (zbs.ext h1 x1) rfl⟩
    | _ => exact h1.elim
theorem d_and {rest : List PySem.Expr} (ha : DE fa X a ga) (hb : DE fa X (.BoolOp .And (b :: rest) pos) gb) : DE fa X (.BoolOp .And (a :: b :: rest) pos) (fun ρ M => (ga ρ M).bind fun x M => match x with
    | .bl true => gb ρ M
    | .bl false => .ok (.bl false) M
    | _ => .bad) :=
  zc0 (pe_and ha hb) fun σ H Q ⟨μ, ρ, M, hE, hM, h⟩ => t1 hE hM h fun x M1 v H1 μ1 x1 hE1 hM1 r1 h1 => by
    cases x with
    | bl k =>
      refine ⟨k, r1, ?_⟩
      cases k with
      | true => exact ⟨μ1, ρ, M1, hE1, hM1, okW h1 x1⟩
      | false => exact zbq (v := .bl false) hM1 (zbs.ext h1 x1) rfl
    | _ => exact h1.elim
theorem d_one {op : PySem.BoolOp} (ha : DE fa X a ga) : DE fa X (.BoolOp op [a] pos) ga := pe_one ha
theorem d_not (ha : DE fa X a ga) : DE fa X (.UnaryOp .Not a pos) (fun ρ M => (ga ρ M).bind fun x M => match x with | .bl k => .ok (.bl (!k)) M | _ => .bad) :=
  zc0 (pe_not ha) fun σ H Q ⟨μ, ρ, M, hE, hM, h⟩ => t1 hE hM h fun x M1 v H1 μ1 x1 hE1 hM1 r1 h1 => by
    cases x with
    | bl k => exact ⟨k, r1, zbq (v := .bl (!k)) hM1 (zbs.ext h1 x1) rfl⟩
    | _ => exact h1.elim
variable {ta tb : Env -> Mem -> Res Bool}
theorem zyf (ha : DT fa X a ta) : DW fa X (.BoolOp .And [a] pos) ta := zxn ha
theorem dw_or1 (ha : DT fa X a ta) : DW fa X (.BoolOp .Or [a] pos) ta := pw_or1 ha
theorem okT {b' : Res Bool} {μ μ' : Mu} {H H' : Hp} {Q : Bool -> Hp -> Prop} (x : Ext μ H μ' H') (h : okE b' fun b M' => ∀ H'' μ'', Ext μ H μ'' H'' -> RelM fa X.K μ'' H'' M' -> Q b H'') : okE b' fun b M' => ∀ H'' μ'', Ext μ' H' μ'' H'' -> RelM fa X.K μ'' H'' M' -> Q b H'' :=
  zbv h fun b M q H'' μ'' y m => q H'' μ'' (x.trans y) m
theorem dw_and {rest : List PySem.Expr} (ha : DT fa X a ta) (hb : DW fa X (.BoolOp .And (b :: rest) pos) tb) : DW fa X (.BoolOp .And (a :: b :: rest) pos) (fun ρ M => (ta ρ M).bind fun k M => if k then tb ρ M else .ok false M) :=
  zsw (pw_and ha hb) fun σ H Q ⟨μ, ρ, M, hE, hM, h⟩ => tT1 hE hM h fun k M1 H1 μ1 x1 hE1 hM1 h1 => by
    cases k with
    | true => exact ⟨μ1, ρ, M1, hE1, hM1, okT x1 h1⟩
    | false => exact h1 H1 μ1 x1 hM1
theorem dw_or {rest : List PySem.Expr} (ha : DT fa X a ta) (hb : DW fa X (.BoolOp .Or (b :: rest) pos) tb) : DW fa X (.BoolOp .Or (a :: b :: rest) pos) (fun ρ M => (ta ρ M).bind fun k M => if k then .ok true M else tb ρ M) :=
  zsw (pw_or ha hb) fun σ H Q ⟨μ, ρ, M, hE, hM, h⟩ => tT1 hE hM h fun k M1 H1 μ1 x1 hE1 hM1 h1 => by
    cases k with
    | true => exact h1 H1 μ1 x1 hM1
    | false => exact ⟨μ1, ρ, M1, hE1, hM1, okT x1 h1⟩
theorem dt_not (ha : DT fa X a ta) : DT fa X (.UnaryOp .Not a pos) (fun ρ M => (ta ρ M).bind fun k M => .ok (!k) M) :=
  zif (pt_not ha) fun σ H Q ⟨μ, ρ, M, hE, hM, h⟩ => tT1 hE hM h fun k M1 H1 μ1 x1 hE1 hM1 h1 => h1 H1 μ1 x1 hM1
theorem zvr (ha : DE fa X a ga) (he : ∀ whole, isTrue a X.env whole = (do let v <- whole; standAt a.pos; holding [v] (truthy v))) : DT fa X a (fun ρ M => (ga ρ M).bind fun x M => ofO M (zh2 M x)) :=
  zif (zu3 ha he) fun σ H Q ⟨μ, ρ, M, hE, hM, h⟩ => t1 hE hM h fun x M1 v H1 μ1 x1 hE1 hM1 r1 h1 => by
    obtain ⟨k, e, q⟩ := zju h1
    exact ⟨k, truV hM1 r1 e, q H1 μ1 x1 hM1⟩
theorem d_ite {c : PySem.Expr} {gc : Env -> Mem -> Res Bool} (hc : DT fa X c gc) (ha : DE fa X a ga) (hb : DE fa X b gb) : DE fa X (.IfExp c a b pos) (fun ρ M => (gc ρ M).bind fun k M => if k then ga ρ M else gb ρ M) :=
  zc0 (zu8 hc ha hb) fun σ H Q ⟨μ, ρ, M, hE, hM, h⟩ => tT1 hE hM h fun k M1 H1 μ1 x1 hE1 hM1 h1 => by
    cases k with
    | true => exact ⟨μ1, ρ, M1, hE1, hM1, okW h1 x1⟩
    | false => exact ⟨μ1, ρ, M1, hE1, hM1, okW h1 x1⟩
theorem d_idx (ha : DE fa X a ga) (hb : DE fa X b gb) (hs : zgr b) : DE fa X (.Subscript a b pos) (fun ρ M => (ga ρ M).bind fun x M => (gb ρ M).bind fun y M => ofO M (zgp x y M)) :=
  zc0 (pe_ix i_all ha hb hs) fun σ H Q ⟨μ, ρ, M, hE, hM, h⟩ => t2 hE hM h fun x y M2 v u H2 μ2 x2 hE2 hM2 r1 r2 h2 => by
    obtain ⟨d, e, q⟩ := zju h2
    exact ⟨μ2, M2, x, y, d, hM2, r1, r2, e, q.ext x2⟩
def DO (fa : Fa) (X : Cx) (e : Option PySem.Expr) (hp : Bool) (g : Env -> Mem -> Res D) : Prop := PO X e fun σ H Q => ∃ μ ρ M, zbr fa X.K μ H σ ρ /\ RelM fa X.K μ H M /\ okE (g ρ M) fun d M' => ∃ o, zcu hp d = true /\ zk9 d = some o /\ ∀ H' μ', Ext μ H μ' H' -> RelM fa X.K μ' H' M' -> Q o H'
theorem zyi : DO fa X none false (fun _ M => .ok .non M) := fun pins s σ H Q I ⟨μ, ρ, M, hE, hM, o, _, e, k⟩ => by
  cases e
  exact zxu pins s σ H Q I (k H μ .refl hM)
theorem zyh (ha : DE fa X a ga) : DO fa X (some a) true ga := fun pins s σ H Q I ⟨μ, ρ, M, hE, hM, h⟩ => zxt ha pins s σ H Q I ⟨μ, ρ, M, hE, hM, zbv h fun d M' ⟨o, p, e, k⟩ v H' μ' x m r => by
  cases d with
  | int i => cases e; exact ⟨i, r, k H' μ' x m⟩
  | _ => cases p⟩
theorem part_of {hp : Bool} {d : D} (h : zcu hp d = true) : ∃ o, zk9 d = some o := by
  cases hp <;> cases d <;> first | exact ⟨_, rfl⟩ | cases h
theorem d_slc (m hl hh : Bool) {lo hi : Option PySem.Expr} {gl gh : Env -> Mem -> Res D} {p2 : Pos} (ha : DE fa X a ga) (hlo : DO fa X lo hl gl) (hhi : DO fa X hi hh gh) : DE fa X (.Subscript a (.Slice lo hi none p2) pos)
    (fun ρ M => (ga ρ M).bind fun x M => (gl ρ M).bind fun l M => (gh ρ M).bind fun h M => if zcu hl l && zcu hh h then zgn m x l h M else .bad) :=
  zc0 (zoy (zxa (fa := fa) m) ha hlo hhi) fun σ H Q ⟨μ, ρ, M, hE, hM, h⟩ => t1 hE hM h fun x M1 v H1 μ1 x1 hE1 hM1 r1 h1 => by
    obtain ⟨l, M2, e2, h2⟩ := zbd h1
    obtain ⟨u, M3, e3, h3⟩ := zbd h2
    split at h3
    · next c =>
      rw [Bool.and_eq_true] at c
      obtain ⟨ol, el⟩ := part_of c.1
      obtain ⟨ou, eu⟩ := part_of c.2
      refine ⟨μ1, ρ, M1, hE1, hM1, ?_⟩
      rw [e2]
      refine ⟨ol, c.1, el, fun H2 μ2 x2 hM2 => ⟨μ2, ρ, M2, hE1.ext x2, hM2, ?_⟩⟩
      rw [e3]
      exact ⟨ou, c.2, eu, fun H3 μ3 x3 hM3 => ⟨μ3, M3, x, l, u, hM3, (r1.ext x2).ext x3, el, eu, okW h3 ((x1.trans x2).trans x3)⟩⟩
    · exact h3.elim
theorem da_nil : DA fa X [] (fun _ M => .ok [] M) := zs6 zho fun σ H Q ⟨μ, ρ, M, hE, hM, h⟩ => h [] H μ .refl hM rfl
theorem zyq {es : List PySem.Expr} {gs : Env -> Mem -> Res (List D)} (ha : DE fa X a ga) (hs : DA fa X es gs) (h0 : starEach (a :: es) X.env = (false, eval a X.env) :: starEach es X.env) :
    DA fa X (a :: es) (fun ρ M => (ga ρ M).bind fun x M => (gs ρ M).bind fun xs M => .ok (x :: xs) M) :=
  zs6 (zft ha hs h0) fun σ H Q ⟨μ, ρ, M, hE, hM, h⟩ => t1 hE hM h fun x M1 v H1 μ1 x1 hE1 hM1 r1 h1 => tA1 hE1 hM1 h1 fun xs M2 vs H2 μ2 x2 hE2 hM2 r2 h2 => h2 (v :: vs) H2 μ2 (x1.trans x2) hM2 ⟨v, vs, rfl, r1.ext x2, r2⟩
theorem d_tup {es : List PySem.Expr} {gs : Env -> Mem -> Res (List D)} {k : Nat} (hs : DA fa X es gs) : DE fa X (.Tuple es k pos) (fun ρ M => (gs ρ M).bind zir) :=
  zc0 (pe_tup hs) fun σ H Q ⟨μ, ρ, M, hE, hM, h⟩ => tA1 hE hM h fun xs M1 vs H1 μ1 x1 hE1 hM1 r1 h1 => by
    unfold zir at h1
    split at h1
    · next c => exact ⟨by rw [r1.length, <- zes]; exact c, zgk hM1 r1 (zbs.ext h1 x1)⟩
    · exact h1.elim
theorem d_lst (m : Bool) {es : List PySem.Expr} {gs : Env -> Mem -> Res (List D)} (hs : DA fa X es gs) : DE fa X (.List es pos) (fun ρ M => (gs ρ M).bind (zb1 m)) :=
  zc0 (pe_lst hs) fun σ H Q ⟨μ, ρ, M, hE, hM, h⟩ => tA1 hE hM h fun xs M1 vs H1 μ1 x1 hE1 hM1 r1 h1 => by
    obtain ⟨c, k⟩ := zf3 hM1 r1 (okW h1 x1)
    exact ⟨by rw [r1.length, <- zes]; exact c, k⟩
end
end LD
namespace LD
open PySem PySem.Spec PyProof.Rows L2
def spD (fa : Fa) (K : PySem.W.Frag) (k : Nat) (call : List D -> Mem -> Res D) : Sp := fun vs H Q E => vs.length = k /\ ∃ μ M ds, RelM fa K μ H M /\ za0 fa K μ H ds vs /\ okE (call ds M) (zbs fa K μ H Q)
def zfp (fa : Fa) (P : Program) (w : World) (K : PySem.W.Frag) (mg : Str -> Option Value) (base : Heap) (n : Nat) (f : Nat) (call : List D -> Mem -> Res D) : Prop :=
  (∀ ds M, call ds M = .bad) \/ ∃ (ad : Addr) (fd : FuncData) (ps : List Str), fa f = some ad /\ PySem.W.keepIn K (.ref ad) = true /\ Binds K fd ps [] /\ (∀ ds M, ds.length ≠ ps.length -> call ds M = .bad) /\ zg4 P w K mg base CX0 n ad fd ps (spD fa K ps.length call)
section
variable {fa : Fa} {X : Cx} {a b d : PySem.Expr} {ga gb gd : Env -> Mem -> Res D} {pos p : Pos} {es : List PySem.Expr} {gs : Env -> Mem -> Res (List D)} {n : Nat}
theorem zt4 {call : List D -> Mem -> Res D} {P : D -> Mem -> Prop} {r : Res (List D)} (hb : ∀ ds M, call ds M = .bad) (h : okE (r.bind fun ds M => call ds M) P) : False := by
  obtain ⟨ds, M, _, q⟩ := zbd h
  rw [hb] at q
  exact q
theorem zm9 {call : List D -> Mem -> Res D} {k : Nat} {σ : L2.St} {H : Hp} {Q : VK} {μ : Mu} {ρ : Env} {M : Mem} (hE : zbr fa X.K μ H σ ρ) (hM : RelM fa X.K μ H M) (h : okE ((gs ρ M).bind fun ds M => call ds M) (zbs fa X.K μ H Q))
    (hk : ∀ ds M1, ds.length ≠ k -> call ds M1 = .bad) : tCall (spD fa X.K k call) [] E0 (tA fa X.K gs) σ H Q := by
  refine tA1 hE hM h fun ds M1 vs H1 μ1 x1 hE1 hM1 r1 h1 => ?_
  rw [List.append_nil]
  refine ⟨?_, μ1, M1, ds, hM1, r1, okW h1 x1⟩
  rw [r1.length]
  by_cases hl : ds.length = k
  · exact hl
  · rw [hk ds M1 hl] at h1; exact h1.elim
theorem d_call {f : Nat} {x : Str} {call : List D -> Mem -> Res D} (C : zfp fa X.prog X.w X.K X.mg X.base n f call) (hr : zbk n X.A) (hg : Gl X x) (hm : ∀ ad, fa f = some ad -> X.mg x = some (.ref ad)) (hs : DA fa X (a :: es) gs)
    (hdb : (x == ("__debug__" : Str)) = false) (he : starEach (a :: es) X.env = (false, eval a X.env) :: starEach es X.env) (hpl : (backTo pos (starEach es X.env)).any (·.1) = false) :
    DE fa X (.Call (.Name x p) (a :: es) [] pos) (fun ρ M => (gs ρ M).bind fun ds M => call ds M) := by
  rcases C with hb | ⟨ad, fd, ps, h1, h2, h3, h4, F⟩
  · exact fun pins s σ H Q I ⟨μ, ρ, M, hE, hM, h⟩ => (zt4 hb h).elim
  · exact zc0 (zxy F hr hg (hm ad h1) h2 h3 .nil pass0 hs hdb he hpl) fun σ H Q ⟨μ, ρ, M, hE, hM, h⟩ => zm9 hE hM h h4
theorem zyr {i : Nat} {x : Str} {call : Nat -> List D -> Mem -> Res D} (C : ∀ f, zfp fa X.prog X.w X.K X.mg X.base n f (call f)) (hr : zbk n X.A) (hN : X.N[i]? = some x) (hv : Vis X.env.scope x) (hs : DA fa X (a :: es) gs)
    (hd : (x == ("__debug__" : Str)) = false) (hcd : (x == ("__classdict__" : Str)) = false) (he : starEach (a :: es) X.env = (false, eval a X.env) :: starEach es X.env) (hpl : (backTo pos (starEach es X.env)).any (·.1) = false) :
    DE fa X (.Call (.Name x p) (a :: es) [] pos) (fun ρ M => match ρ[i]?.getD none with | some (.fn f) => (gs ρ M).bind fun ds M => call f ds M | _ => .bad) := by
  intro pins s σ H Q I ⟨μ, ρ, M, hE, hM, h⟩
  dsimp only at h
  cases e : ρ[i]?.getD none with
  | none => rw [e] at h; exact h.elim
  | some df =>
    cases df with
    | fn f =>
      rw [e] at h
      simp only at h
      have e' : ρ[i]? = some (some (.fn f)) := by
        cases q : ρ[i]? with
        | none => rw [q] at e; cases e
        | some o => rw [q] at e; simp at e; rw [e]
      obtain ⟨v, hv1, hv2⟩ := hE.at' i _ e'
      obtain ⟨ad, rfl, had⟩ := hv2
      rcases C f with hb | ⟨ad', fd, ps, h1, h2, h3, h4, F⟩
      · exact (zt4 hb h).elim
      · rw [had] at h1; cases h1
        refine wpAny_Call_Name_kw (thn (zox hN hv hd hcd pins s σ H (fun v H' => v = .ref ad /\ H' = H) I ⟨_, hv1, rfl, rfl⟩) fun u s1 ⟨v, H1, I1, r1, e1, e2⟩ => ?_)
        subst e1 e2
        obtain rfl : u = Value.ref ad := r1
        refine PySem.W.callWith_K (h₀ := X.base) I1.ok.mod.kin h2 (thn (hs pos pins s1 σ H1 _ I1 (zm9 hE hM h h4)) fun us s2 ⟨vs, H2, I2, r, q⟩ => ⟨I2.kIn, ?_⟩) he hpl
        exact zst F hr h3 .nil pass0 I2 r q
    | _ => rw [e] at h; exact h.elim
theorem d_blt (f : Blt) {x : Str} {id : String} (hc : zdl X (.builtin id) (rBlt fa X.K f)) (hg : Gl X x) (hm : X.mg x = none) (hv : bootBuiltins x = some (.builtin id)) (hs : DA fa X (a :: es) gs) (hn : x ≠ "__name__") (hdb : (x == ("__debug__" : Str)) = false)
    (he : starEach (a :: es) X.env = (false, eval a X.env) :: starEach es X.env) (hpl : (backTo pos (starEach es X.env)).any (·.1) = false) : DE fa X (.Call (.Name x p) (a :: es) [] pos) (fun ρ M => (gs ρ M).bind fun ds M => zfk f ds M) :=
  zc0 (zoz hc hg hm hv hs hn hdb he hpl) fun σ H Q ⟨μ, ρ, M, hE, hM, h⟩ => tA1 hE hM h fun ds M1 vs H1 μ1 x1 hE1 hM1 r1 h1 => ⟨μ1, M1, ds, hM1, r1, okW h1 x1⟩
theorem ztw (f : Blt) {x : Str} {T : String} (hc : zdl X (.type T) (rBlt fa X.K f)) (hg : Gl X x) (hm : X.mg x = none) (hv : bootBuiltins x = some (.type T)) (hs : DA fa X (a :: es) gs) (hn : x ≠ "__name__") (hdb : (x == ("__debug__" : Str)) = false)
    (he : starEach (a :: es) X.env = (false, eval a X.env) :: starEach es X.env) (hpl : (backTo pos (starEach es X.env)).any (·.1) = false) : DE fa X (.Call (.Name x p) (a :: es) [] pos) (fun ρ M => (gs ρ M).bind fun ds M => zfk f ds M) :=
  zc0 (zs3 hc hg hm hv hs hn hdb he hpl) fun σ H Q ⟨μ, ρ, M, hE, hM, h⟩ => tA1 hE hM h fun ds M1 vs H1 μ1 x1 hE1 hM1 r1 h1 => ⟨μ1, M1, ds, hM1, r1, okW h1 x1⟩
theorem d_inst (t : Ty) (ht : ∀ c, t ≠ .own c) {x : Str} {p1 p2 : Pos} (ha : DE fa X a ga) (hg : Gl X "isinstance") (hm : X.mg "isinstance" = none) (hv : bootBuiltins "isinstance" = some (.builtin "isinstance")) (hgt : Gl X x) (hmt : X.mg x = none) (hvt : bootBuiltins x = some (.type (tyName t)))
    (hn : x ≠ "__name__") (hdb : (x == ("__debug__" : Str)) = false)
    (he : starEach [a, .Name x p1] X.env = (false, eval a X.env) :: starEach [.Name x p1] X.env) : DE fa X (.Call (.Name "isinstance" p2) [a, .Name x p1] [] pos) (fun ρ M => (ga ρ M).bind fun x M => (ofO M (zbo t x)).bind fun b M => .ok (.bl b) M) :=
  zc0 (zoz (f_inst (fa := fa) t ht) hg hm hv (zft ha (zft (zxz hgt hmt hvt (v := .ty (tyName t)) rfl hn hdb) zho (by rfl)) he) (by decide) (by decide) he (by rfl)) fun σ H Q ⟨μ, ρ, M, hE, hM, h⟩ => t1 hE hM h fun x M1 v H1 μ1 x1 hE1 hM1 r1 h1 => by
    obtain ⟨b, e, q⟩ := zlh h1
    exact ⟨μ1, M1, x, v, b, rfl, hM1, r1, e, zbq (v := .bl b) hM1 (q.ext x1) rfl⟩
def gT (fa : Fa) (K : PySem.W.Frag) (t : Tgt) : TG := fun v σ H Q => ∃ μ ρ M d ρ1, zbr fa K μ H σ ρ /\ RelM fa K μ H M /\ Rep fa K μ H d v /\ zdt t d ρ = some ρ1 /\ ∀ σ1, zbr fa K μ H σ1 ρ1 -> Q σ1 H
theorem zs1 {tg : PySem.Expr} {g g' : TG} (h : PG X tg g) (i : ∀ v σ H Q, g' v σ H Q -> g v σ H Q) : PG X tg g' := fun pins s σ H v u Q I r q => h pins s σ H v u Q I r (i v σ H Q q)
theorem zql {tg : List PySem.Expr} {g g' : TGs} (h : PGs X tg g) (i : ∀ v σ H Q, g' v σ H Q -> g v σ H Q) : PGs X tg g' := fun pins s σ H v u Q I r q => h pins s σ H v u Q I r (i v σ H Q q)
theorem zyn {i : Nat} {x : Str} (hN : X.N.Nodup) (hi : X.N[i]? = some x) (hx : Loc X.env.scope x) (hf : X.fn x = true \/ X.env.scope.names.lookup x = some .local) : PG X (.Name x pos) (gT fa X.K (.one i)) :=
  zs1 (zqm hN hi hx hf) fun v σ H Q ⟨μ, ρ, M, d, ρ1, hE, hM, r, e, k⟩ => by
    have e' : ρ.set i (some d) = ρ1 := Option.some.inj e
    subst e'
    exact k _ (hE.set r)
def gNames (fa : Fa) (K : PySem.W.Frag) (l : List Nat) : TGs := fun vs σ H Q => ∃ μ ρ M ds ρ1, zbr fa K μ H σ ρ /\ RelM fa K μ H M /\ za0 fa K μ H ds vs /\ zfy l ds ρ = some ρ1 /\ ∀ σ1, zbr fa K μ H σ1 ρ1 -> Q σ1 H
inductive zhy (X : Cx) : List Nat -> List PySem.Expr -> Prop
  | nil : zhy X [] []
  | cons {i : Nat} {x : Str} {p : Pos} {l : List Nat} {ns : List PySem.Expr} (hi : X.N[i]? = some x) (hx : Loc X.env.scope x) (hf : X.fn x = true \/ X.env.scope.names.lookup x = some .local) (r : zhy X l ns) : zhy X (i :: l) (.Name x p :: ns)
theorem zhy.each {l : List Nat} {ns : List PySem.Expr} (h : zhy X l ns) : (assignEach ns X.env).length = l.length /\ (assignEach ns X.env).findIdx? (·.1) = none := by
  induction h with
  | nil => exact ⟨rfl, rfl⟩
  | cons hi hx hf r ih =>
    rename_i i x p l ns
    have e : assignEach (.Name x p :: ns) X.env = (false, assign (.Name x p) X.env) :: assignEach ns X.env := rfl
    rw [e]
    refine ⟨by simp [ih.1], ?_⟩
    rw [List.findIdx?_cons]
    simp [ih.2]
theorem zvu (hN : X.N.Nodup) {l : List Nat} {ns : List PySem.Expr} (h : zhy X l ns) : PGs X ns (gNames fa X.K l) := by
  induction h with
  | nil =>
    refine zql zxw fun vs σ H Q ⟨μ, ρ, M, ds, ρ1, hE, hM, r, e, k⟩ => ?_
    cases ds with
    | nil =>
      obtain rfl : vs = [] := r
      have e' : ρ = ρ1 := Option.some.inj e
      subst e'
      exact ⟨rfl, k _ hE⟩
    | cons => cases e
  | cons hi hx hf r ih =>
    refine zql (zu7 (zqm hN hi hx hf) ih (by rfl)) fun vs σ H Q ⟨μ, ρ, M, ds, ρ1, hE, hM, r, e, k⟩ => ?_
    cases ds with
    | nil => cases e
    | cons d ds =>
      obtain ⟨v, vr, rfl, r1, r2⟩ := r
      exact ⟨v, vr, rfl, μ, _, M, ds, ρ1, hE.set r1, hM, r2, e, k⟩
theorem zi0 : ∀ {l : List Nat} {ds : List D} {ρ ρ1 : Env}, zfy l ds ρ = some ρ1 -> ds.length = l.length
  | [], [], _, _, _ => rfl
  | _ :: _, [], _, _, h => by cases h
  | [], _ :: _, _, _, h => by cases h
  | _ :: l, _ :: ds, _, _, h => by
    have := zi0 (l := l) (ds := ds) h
    simp [this]
theorem dg_tup (hc : X.calm = true) (hN : X.N.Nodup) {l : List Nat} {ns : List PySem.Expr} {k : Nat} (h : zhy X l ns) : PG X (.Tuple ns k pos) (gT fa X.K (.tup l)) :=
  zs1 (pg_tup (n := l.length) hc (zvu (fa := fa) hN h) h.each.1 h.each.2) fun v σ H Q ⟨μ, ρ, M, d, ρ1, hE, hM, r, e, k⟩ => by
    cases d with
    | tup ds =>
      obtain ⟨a, vs, rfl, hq, r⟩ := r
      exact ⟨a, vs, rfl, hq, by rw [r.length]; exact zi0 e, μ, ρ, M, ds, ρ1, hE, hM, r, e, k⟩
    | _ => cases e
end
end LD
namespace LD
open PySem PySem.Spec PyProof.Rows L2
section
variable {fa : Fa} {X : Cx} {a b d : PySem.Expr} {ga gb gd : Env -> Mem -> Res D} {pos p : Pos} {es : List PySem.Expr} {gs : Env -> Mem -> Res (List D)} {n : Nat}
theorem ds_asg {tg : PySem.Expr} {t : Tgt} (ha : DE fa X a ga) (hg : PG X tg (gT fa X.K t)) (hs : swapsWithSole [tg] a pos.line X.env = pure false) (hw : swappedStores [tg] a X.env = pure none) (h1 : (assignEach [tg] X.env).map (·.2) = [assign tg X.env]) :
    DS fa X (.Assign [tg] a pos) (fun ρ M => (ga ρ M).bind fun x M => (ofO M (zdt t x ρ)).bind fun ρ1 M => .ok (.next ρ1) M) :=
  zhn (zsx ha hg hs hw h1) fun D σ H ⟨μ, ρ, M, hE, hM, h⟩ => t1 hE hM h fun x M1 v H1 μ1 x1 hE1 hM1 r1 h1 => by
    obtain ⟨ρ1, M2, e, q⟩ := zbd h1
    cases eb : zdt t x ρ with
    | none => rw [eb] at e; cases e
    | some ρ2 =>
      rw [eb] at e
      cases e
      exact ⟨μ1, ρ, M1, x, ρ1, hE1, hM1, r1, eb, fun σ1 hE2 => q σ1 H1 μ1 x1 hE2 hM1⟩
theorem zmw {D' : Ends} {μ : Mu} {H : Hp} {σ : L2.St} {ρ : Env} {M : Mem} {k : Nat} {ad : Addr} {ws : List V} {ds : List D} (hE : zbr fa X.K μ H σ ρ) (hM : RelM fa X.K μ H M) (hk : μ.pub k = some ad) (r : za0 fa X.K μ H ds ws)
    (q : ∀ σ' H' μ', Ext μ H μ' H' -> zbr fa X.K μ' H' σ' ρ -> RelM fa X.K μ' H' (M.set k ds) -> D'.nx σ' H') : D'.nx σ (upd H ad (.lst ws)) :=
  q σ _ μ (Ext.write (vs := ws) hM hk) (hE.ext (Ext.write (vs := ws) hM hk)) (hM.write hk r)
theorem ds_put (ha : DE fa X a ga) (hb : DE fa X b gb) (hd : DE fa X d gd) {p2 : Pos}
    (h0 : ∀ v, assign (.Subscript a b p2) X.env v = (do
      let ov <- holding [v] (eval a X.env)
      let iv <- holding [v, ov] (eval b X.env)
      standAt p2
      holding [v, ov, iv] (setItem ov iv v)
      release [v, ov, iv] [])) (hs : swapsWithSole [.Subscript a b p2] d pos.line X.env = pure false) (hw : swappedStores [.Subscript a b p2] d X.env = pure none) (h1 : (assignEach [.Subscript a b p2] X.env).map (·.2) = [assign (.Subscript a b p2) X.env]) :
    DS fa X (.Assign [.Subscript a b p2] d pos) (fun ρ M => (gd ρ M).bind fun z M => (ga ρ M).bind fun x M => (gb ρ M).bind fun y M => match x, y with
      | .cell k, .int n => match M[k]? with
        | some ds => match ixN ds.length n with
          | some j => .ok (.next ρ) (M.set k (ds.set j z))
          | none => .bad
        | none => .bad
      | _, _ => .bad) :=
  zhn (zsx hd (pg_sub ha hb set_list h0) hs hw h1) fun D' σ H ⟨μ, ρ, M, hE, hM, h⟩ => t1 hE hM h fun z M1 v H1 μ1 x1 hE1 hM1 r1 h1 => t2 hE1 hM1 h1 fun x y M2 vx vy H2 μ2 x2 hE2 hM2 rx ry h2 => by
    have key : ∀ k n, x = .cell k -> y = .int n -> rSetL vx vy v H2 fun H3 => D'.nx σ H3 := fun k n e1 e2 => by
      subst e1 e2
      dsimp only at h2
      cases e : M2[k]? with
      | none => rw [e] at h2; exact h2.elim
      | some ds =>
        rw [e] at h2
        dsimp only at h2
        cases ej : LD.ixN ds.length n with
        | none => rw [ej] at h2; exact h2.elim
        | some j =>
          rw [ej] at h2
          obtain ⟨ad, rfl, hk⟩ := rx
          obtain ⟨ad', ws, h3, h4, h5⟩ := hM2.at' k ds e
          rw [hk] at h3; cases h3
          have q : ∀ σ' H' μ', Ext μ H μ' H' -> zbr fa X.K μ' H' σ' ρ -> RelM fa X.K μ' H' (M2.set k (ds.set j z)) -> D'.nx σ' H' := h2
          refine ⟨ad, ws, n, j, rfl, ry, h4, by rw [h5.length]; exact ej, zmw hE2 hM2 hk (h5.set j (r1.ext x2)) fun σ' H' μ' x' e' m' => q σ' H' μ' ((x1.trans x2).trans x') e' m'⟩
    cases x with
    | cell k => cases y with
      | int n => exact key k n rfl rfl
      | _ => exact h2.elim
    | _ => exact h2.elim
theorem ds_app (ha : DE fa X a ga) (hd : DE fa X d gd) {apos cpos : Pos} (hbase : attributeBase a "append" X.env (eval a X.env) = eval a X.env) (hline : (apos.endLine == cpos.line) = true) (hs : starEach [d] X.env = [(false, eval d X.env)])
    (hsw : swapsWith (.Call (.Attribute a "append" apos) [d] [] cpos) none pos.line X.env = pure false) :
    DS fa X (.Expr (.Call (.Attribute a "append" apos) [d] [] cpos) pos) (fun ρ M => (ga ρ M).bind fun x M => (gd ρ M).bind fun z M => match x with
      | .cell k => match M[k]? with
        | some ds => if ds.length < sz then .ok (.next ρ) (M.set k (ds ++ [z])) else .bad
        | none => .bad
      | _ => .bad) :=
  zhn (zxr (pe_bm PySem.F.plainAttrs_list PySem.F.slot_list_append PySem.F.type_list_append zm5 ha (zft hd zho hs) hbase (by rw [hs]; rfl) hline hs (by rfl)) hsw) fun D' σ H ⟨μ, ρ, M, hE, hM, h⟩ => by
    obtain ⟨x, M1, e1, h1⟩ := zbd h
    obtain ⟨z, M2, e2, h2⟩ := zbd h1
    cases x with
    | cell k =>
      dsimp only at h2
      cases e : M2[k]? with
      | none => rw [e] at h2; exact h2.elim
      | some ds =>
        rw [e] at h2
        dsimp only at h2
        split at h2
        · next hz =>
          have q : ∀ σ' H' μ', Ext μ H μ' H' -> zbr fa X.K μ' H' σ' ρ -> RelM fa X.K μ' H' (M2.set k (ds ++ [z])) -> D'.nx σ' H' := h2
          refine ⟨μ, ρ, M, hE, hM, ?_⟩
          rw [e1]
          intro vx H1 μ1 x1 hM1 rx
          obtain ⟨ad, rfl, hk⟩ := rx
          obtain ⟨ds1, ws1, _, hH1, _⟩ := hM1.mu_lt hk
          refine ⟨.inl ⟨rfl, ws1, SqL.of hH1⟩, μ1, ρ, M1, hE.ext x1, hM1, ?_⟩
          rw [e2]
          intro vz H2 μ2 x2 hM2 rz
          obtain ⟨ad', ws, h3, h4, h5⟩ := hM2.at' k ds e
          rw [x2.mu k ad hk] at h3; cases h3
          refine ⟨ad, ws, vz, rfl, rfl, h4, by rw [h5.length, <- zes]; exact hz, ?_⟩
          exact zmw ((hE.ext x1).ext x2) hM2 (x2.mu k ad hk) (h5.append (.one rz)) fun σ' H' μ' x' e' m' => q σ' H' μ' ((x1.trans x2).trans x') e' m'
        · exact h2.elim
    | _ => exact h2.elim
theorem ds_ret (ha : DE fa X a ga) : DS fa X (.Return (some a) pos) (fun ρ M => (ga ρ M).bind fun x M => .ok (.ret x) M) :=
  zhn (ps_ret ha) fun D' σ H ⟨μ, ρ, M, hE, hM, h⟩ => by
    obtain ⟨x, M1, e, q⟩ := zbd h
    refine ⟨μ, ρ, M, hE, hM, ?_⟩
    rw [e]; exact q
theorem ds_pass : DS fa X (.Pass pos) (fun ρ M => .ok (.next ρ) M) := zhn zxq fun D' σ H ⟨μ, ρ, M, hE, hM, h⟩ => h σ H μ .refl hE hM
theorem okF {r : Res Fl} {μ μ' : Mu} {H H' : Hp} {D' : Ends} (x : Ext μ H μ' H') (h : okE r fun fl M' => match fl with
    | .next ρ' => ∀ σ' H'' μ'', Ext μ H μ'' H'' -> zbr fa X.K μ'' H'' σ' ρ' -> RelM fa X.K μ'' H'' M' -> D'.nx σ' H''
    | .ret d => zbs fa X.K μ H D'.rt d M') : okE r fun fl M' => match fl with
    | .next ρ' => ∀ σ' H'' μ'', Ext μ' H' μ'' H'' -> zbr fa X.K μ'' H'' σ' ρ' -> RelM fa X.K μ'' H'' M' -> D'.nx σ' H''
    | .ret d => zbs fa X.K μ' H' D'.rt d M' := zbv h fun fl M q => by
  cases fl with
  | next ρ' => exact fun σ' H'' μ'' y e m => q σ' H'' μ'' (x.trans y) e m
  | ret d => exact zbs.ext q x
theorem ds_ite {c : PySem.Expr} {gc : Env -> Mem -> Res Bool} {st sf : List PySem.Stmt} {gt gf : Env -> Mem -> Res Fl} (hc : DT fa X c gc) (ht : DSs fa X st gt) (hf : DSs fa X sf gf) : DS fa X (.If c st sf pos) (fun ρ M => (gc ρ M).bind fun k M => if k then gt ρ M else gf ρ M) :=
  zhn (ps_if hc ht hf) fun D' σ H ⟨μ, ρ, M, hE, hM, h⟩ => tT1 hE hM h fun k M1 H1 μ1 x1 hE1 hM1 h1 => by
    cases k with
    | true => exact ⟨μ1, ρ, M1, hE1, hM1, okF x1 h1⟩
    | false => exact ⟨μ1, ρ, M1, hE1, hM1, okF x1 h1⟩
theorem zyg : DSs fa X [] (fun ρ M => .ok (.next ρ) M) := zqk zxp fun D' σ H ⟨μ, ρ, M, hE, hM, h⟩ => h σ H μ .refl hE hM
theorem zvs {st : PySem.Stmt} {ss : List PySem.Stmt} {g : Env -> Mem -> Res Fl} {g' : Env -> Mem -> Res Fl} (h1 : DS fa X st g) (h2 : DSs fa X ss g') : DSs fa X (st :: ss) (fun ρ M => (g ρ M).bind fun fl M => match fl with
    | .next ρ => g' ρ M
    | .ret d => .ok (.ret d) M) :=
  zqk (zu5 h1 h2) fun D' σ H ⟨μ, ρ, M, hE, hM, h⟩ => by
    obtain ⟨fl, M1, e, q⟩ := zbd h
    refine ⟨μ, ρ, M, hE, hM, ?_⟩
    rw [e]
    cases fl with
    | next ρ1 => exact fun σ1 H1 μ1 x1 hE1 hM1 => ⟨μ1, ρ1, M1, hE1, hM1, okF x1 q⟩
    | ret d => exact q
end
end LD
namespace LD
open PySem PySem.Spec PyProof.Rows L2
def zen (fa : Fa) (K : PySem.W.Frag) (μ0 : Mu) (H0 : Hp) (w : Walk) (J : It) : Prop :=
  ∀ (μ : Mu) (H : Hp) (M : Mem) (ds : List D), ExtW μ0 H0 μ H -> RelM fa K μ H M -> w M = some ds -> (∀ (i : Nat) (d : D), ds[i]? = some d -> J.go i H /\ ∀ x H', J.yld i H x H' -> Ext μ H μ H' /\ RelM fa K μ H' M /\ Rep fa K μ H' d x) /\ ∀ i, ds.length ≤ i -> J.stop i H
def tI (fa : Fa) (K : PySem.W.Frag) (g : Env -> Mem -> Res Walk) : TI := fun σ H R => ∃ μ ρ M, zbr fa K μ H σ ρ /\ RelM fa K μ H M /\ okE (g ρ M) fun w M' => ∀ J H' μ', Ext μ H μ' H' -> RelM fa K μ' H' M' -> zen fa K μ' H' w J -> R J H'
abbrev DI (fa : Fa) (X : Cx) (tg iter : PySem.Expr) (g : Env -> Mem -> Res Walk) : Prop := PI X tg iter (tI fa X.K g)
theorem zr9 {fa : Fa} {K : PySem.W.Frag} {μ0 μ1 : Mu} {H0 H1 : Hp} {w : Walk} {J : It} (h : zen fa K μ0 H0 w J) (x : ExtW μ0 H0 μ1 H1) : zen fa K μ1 H1 w J := fun μ H M ds y hM e => h μ H M ds (x.trans y) hM e
section
variable {fa : Fa} {X : Cx} {tg a b d : PySem.Expr} {ga gb gd : Env -> Mem -> Res D} {pos p : Pos} {es : List PySem.Expr} {n : Nat}
theorem zsa {μ0 : Mu} {H0 : Hp} {dd : D} {ad : Addr} (h : Rep fa X.K μ0 H0 dd (.ref ad)) : zen fa X.K μ0 H0 (fun M => rdD M dd) (Itl X.K ad) := fun μ H M ds x hM e => by
  obtain ⟨ad', vs, ea, s, r⟩ := zcd hM (Rep.extW x h) e
  cases ea
  refine ⟨fun i d hd => ?_, fun i hi => ⟨vs, s, by rw [r.length]; exact hi⟩⟩
  obtain ⟨v, hv, rv⟩ := r.get hd
  refine ⟨⟨vs, v, s, hv⟩, fun y H' ⟨e, hy⟩ => ?_⟩
  subst e
  have := hy vs s
  rw [hv] at this; cases this
  exact ⟨.refl, hM, rv⟩
theorem zuh {μ0 : Mu} {H0 : Hp} {ds : List D} {ad : Addr} (h : Rep fa X.K μ0 H0 (.tup ds) (.ref ad)) : zen fa X.K μ0 H0 (fun _ => some ds) (Itt X.K ad) := fun μ H M ds' x hM e' => by
  cases e'
  obtain ⟨ad', vs, e, s, r⟩ := Rep.extW x h
  cases e
  refine ⟨fun i d hd => ?_, fun i hi => ⟨vs, s, by rw [r.length]; exact hi⟩⟩
  obtain ⟨v, hv, rv⟩ := r.get hd
  refine ⟨⟨vs, v, s, hv⟩, fun y H' ⟨e, hy⟩ => ?_⟩
  subst e
  have := hy vs s
  rw [hv] at this; cases this
  exact ⟨.refl, hM, rv⟩
theorem zuj {μ0 : Mu} {H0 : Hp} (lo : Int) (n : Nat) : zen fa X.K μ0 H0 (fun _ => some ((List.range n).map fun (k : Nat) => D.int (lo + (k : Int)))) (Itr lo n) := fun μ H M ds x hM e => by
  cases e
  refine ⟨fun i d hd => ?_, fun i hi => (show n ≤ i by simpa using hi)⟩
  rw [List.getElem?_map] at hd
  by_cases hi : i < n
  · rw [List.getElem?_range hi] at hd
    have e : D.int (lo + (i : Int)) = d := Option.some.inj hd
    subst e
    refine ⟨hi, fun y H' ⟨e1, e2⟩ => ?_⟩
    subst e1 e2
    exact ⟨.refl, hM, rfl⟩
  · rw [List.getElem?_eq_none (by simpa using hi)] at hd; cases hd
def zd5 (ga : Env -> Mem -> Res D) : Env -> Mem -> Res Walk := fun ρ M => (ga ρ M).bind fun x M => match x with
    | .lst ds => .ok (fun _ => some ds) M
    | .tup ds => .ok (fun _ => some ds) M
    | .frz ds => .ok (fun _ => some ds) M
    | .cell k => .ok (fun M => M[k]?) M
    | _ => .bad
theorem di_seq (ha : DE fa X a ga) : DI fa X tg a (zd5 ga) := fun pins s σ H R I ⟨μ, ρ, M, hE, hM, h⟩ => by
  obtain ⟨x, M1, e, q⟩ := zbd h
  have lst : (∀ μ' H', RelM fa X.K μ' H' M1 -> ∀ v, Rep fa X.K μ' H' x v -> ∃ ds, rdD M1 x = some ds) -> (∀ J H' μ', Ext μ H μ' H' -> RelM fa X.K μ' H' M1 -> zen fa X.K μ' H' (fun M => rdD M x) J -> R J H') ->
      wpAny (model X.prog X.w) X.A (eval a X.env) (fun v s1 => wpAny (model X.prog X.w) X.A (pyIter v) (PIE X pins σ tg R) X.xe s1) X.xe s := fun hx q => by
    refine zxv ha pins s σ H R I ⟨μ, ρ, M, hE, hM, ?_⟩
    rw [e]
    intro v H1 μ1 x1 m1 r1
    obtain ⟨ds, er⟩ := hx μ1 H1 m1 v r1
    obtain ⟨ad, vs, rfl, s1, r⟩ := zcd m1 r1 er
    exact ⟨ad, rfl, ⟨vs, s1⟩, q _ H1 μ1 x1 m1 (zsa r1)⟩
  cases x with
  | lst ds => exact lst (fun _ _ _ _ _ => ⟨ds, rfl⟩) q
  | frz ds => exact lst (fun _ _ _ _ _ => ⟨ds, rfl⟩) q
  | tup ds =>
    refine pi_tup ha pins s σ H R I ⟨μ, ρ, M, hE, hM, ?_⟩
    rw [e]
    intro v H1 μ1 x1 m1 r1
    obtain ⟨ad, vs, rfl, s1, r⟩ := id r1
    exact ⟨ad, rfl, ⟨vs, s1⟩, q _ H1 μ1 x1 m1 (zuh r1)⟩
  | cell k => exact lst (fun μ' H' m' v ⟨ad, _, hk⟩ => let ⟨ds, _, e, _⟩ := m'.mu_lt hk; ⟨ds, e⟩) q
  | _ => exact q.elim
def zd4 (ga : Env -> Mem -> Res D) : Env -> Mem -> Res Walk := fun ρ M => (ga ρ M).bind fun x M => match x with
    | .int n => if -(2 ^ 62) ≤ n /\ n < 2 ^ 62 then .ok (fun _ => some ((List.range n.toNat).map fun (k : Nat) => D.int (k : Int))) M else .bad
    | _ => .bad
theorem zyl (ha : DE fa X a ga) (hg : Gl X "range") (hm : X.mg "range" = none) (hs : starEach [a] X.env = [(false, eval a X.env)]) : DI fa X tg (.Call (.Name "range" p) [a] [] pos) (zd4 ga) := fun pins s σ H R I ⟨μ, ρ, M, hE, hM, h⟩ => by
  refine zs0 hg hm (zft ha zho hs) hs pins s σ H R I ?_
  refine t1 hE hM h fun x M1 v H1 μ1 x1 hE1 hM1 r1 h1 => ?_
  cases x with
  | int n =>
    dsimp only at h1
    split at h1
    · next c =>
      obtain rfl : v = .int n := r1
      refine ⟨n, rfl, c.1, c.2, h1 _ H1 μ1 x1 hM1 ?_⟩
      have := zuj (fa := fa) (X := X) (μ0 := μ1) (H0 := H1) 0 n.toNat
      simpa using this
    · exact h1.elim
  | _ => exact h1.elim
def zg5 (t : Tgt) (gb : Env -> Mem -> Res Fl) : Fl -> D -> Mem -> Res Fl := fun fl d M => match fl with
  | .ret d => .ok (.ret d) M
  | .next ρ => (ofO M (zdt t d ρ)).bind fun ρ1 M => gb ρ1 M
theorem zpc {t : Tgt} {gb : Env -> Mem -> Res Fl} {d : D} {w : Walk} {P : Fl -> Mem -> Prop} : ∀ (n i : Nat) (M : Mem), okE (zez (zg5 t gb) w n i (.ret d) M) P -> P (.ret d) M
  | 0, _, _, h => h.elim
  | n + 1, i, M, h => by
    unfold zez at h
    cases e : w M with
    | none => rw [e] at h; exact h.elim
    | some ds =>
      rw [e] at h
      dsimp only at h
      cases e2 : ds[i]? with
      | none => rw [e2] at h; exact h
      | some d' => rw [e2] at h; exact zpc n (i + 1) M h
theorem ds_for {t : Tgt} {body : List PySem.Stmt} {gw : Env -> Mem -> Res Walk} {gb : Env -> Mem -> Res Fl} (hp : PassesOwn (model X.prog X.w) X.A X.env X.xe) (hc : X.calm = true) (hi : DI fa X tg a gw) (hg : PG X tg (gT fa X.K t)) (hb : DSs fa X body gb)
    (hs : ∀ x, foldedSetIterable a X.env x = pure x) : DS fa X (.For tg a body [] pos) (fun ρ M => (gw ρ M).bind fun w M => zfc (zg5 t gb) w (.next ρ) M) :=
  zhn (ps_for hp hc hi hg hb hs) fun D' σ H ⟨μ, ρ, M, hE, hM, h⟩ => by
    obtain ⟨w, M1, e, q⟩ := zbd h
    refine ⟨μ, ρ, M, hE, hM, ?_⟩
    rw [e]
    intro J H1 μ1 x1 hM1 wk
    have hE1 := hE.ext x1
    generalize hF : (fun (fl : Fl) (M' : Mem) => match fl with
      | .next ρ' => ∀ σ' H'' μ'', Ext μ H μ'' H'' -> zbr fa X.K μ'' H'' σ' ρ' -> RelM fa X.K μ'' H'' M' -> D'.nx σ' H''
      | .ret d => zbs fa X.K μ H D'.rt d M') = Fn at q
    have hFn : ∀ ρ' M', Fn (.next ρ') M' -> ∀ σ' H'' μ'', Ext μ H μ'' H'' -> zbr fa X.K μ'' H'' σ' ρ' -> RelM fa X.K μ'' H'' M' -> D'.nx σ' H'' := fun ρ' M' z => by rw [<- hF] at z; exact z
    have hFr : ∀ d M', Fn (.ret d) M' -> zbs fa X.K μ H D'.rt d M' := fun d M' z => by rw [<- hF] at z; exact z
    refine ⟨fun i m σ' H' => ∃ μ' ρ' M', Ext μ1 H1 μ' H' /\ zbr fa X.K μ' H' σ' ρ' /\ RelM fa X.K μ' H' M' /\ okE (zez (zg5 t gb) w m i (.next ρ') M') Fn,
      ⟨_, μ1, ρ, M1, .refl, hE1, hM1, q⟩, ?_⟩
    rintro i m σ2 H2 ⟨μ2, ρ2, M2, x2, hE2, hM2, q2⟩
    cases m with
    | zero => exact q2.elim
    | succ m =>
      unfold zez at q2
      cases e2 : w M2 with
      | none => rw [e2] at q2; exact q2.elim
      | some ds =>
        rw [e2] at q2
        dsimp only at q2
        obtain ⟨go, stop⟩ := wk μ2 H2 M2 ds x2.toExtW hM2 e2
        cases ed : ds[i]? with
        | none =>
          rw [ed] at q2
          exact .inl ⟨stop i (List.getElem?_eq_none_iff.mp ed), hFn ρ2 M2 q2 σ2 H2 μ2 (x1.trans x2) hE2 hM2⟩
        | some d =>
          rw [ed] at q2
          obtain ⟨g1, g2⟩ := go i d ed
          refine .inr ⟨g1, fun σ' H' => ∃ μ' ρ' M', Ext μ1 H1 μ' H' /\ zbr fa X.K μ' H' σ' ρ' /\ RelM fa X.K μ' H' M' /\ okE (zez (zg5 t gb) w m (i + 1) (.next ρ') M') Fn, fun σ' H' z => ⟨m, by omega, z⟩, fun y H3 hy => ?_⟩
          obtain ⟨x3, hM3, r3⟩ := g2 y H3 hy
          have q2 : okE (((ofO M2 (zdt t d ρ2)).bind fun ρ1 M => gb ρ1 M).bind (zez (zg5 t gb) w m (i + 1))) Fn := q2
          obtain ⟨fl, M4, e4, q4⟩ := zbd q2
          obtain ⟨ρ4, M5, e5, e6⟩ := zd9 e4
          cases eb : zdt t d ρ2 with
          | none => rw [eb] at e5; cases e5
          | some ρ5 =>
            rw [eb] at e5
            cases e5
            refine ⟨μ2, ρ2, _, d, ρ4, hE2.ext x3, hM3, r3, eb, fun σ5 hE5 => ⟨μ2, ρ4, _, hE5, hM3, ?_⟩⟩
            rw [e6]
            cases fl with
            | next ρ6 => exact fun σ6 H6 μ6 x6 hE6 hM6 => ⟨μ6, ρ6, M4, (x2.trans x3).trans x6, hE6, hM6, q4⟩
            | ret d6 => exact (hFr d6 M4 (zpc m (i + 1) M4 q4)).ext ((x1.trans x2).trans x3)
end
end LD
namespace LD
open PySem PySem.Spec PyProof.Rows L2
abbrev FF : Value -> Shared -> Prop := fun _ _ => False
section
variable {prog : Program} {w : World} {A : Around} {s : Shared}
theorem zty {elt : PySem.Expr} {gens : List Comprehension} {scope : Scope} {pos p : Pos} {k : Nat} {it acc : Value} {env : PySem.Env} {R : Result -> Shared -> Prop} {target : PySem.Expr} {body : Sem Unit}
    (heq : compTurn (.ListComp elt gens scope pos) k it acc env = (standAt p >>= fun _ => pyNext it >>= fun r => match r with
      | none => pure (.done .next)
      | some v => letOwnedTupleGo target it v >>= fun _ => assign target env v >>= fun _ => body >>= fun _ => again (.compLoop (.ListComp elt gens scope pos) k it acc env)))
    (I : Nat -> Shared -> Prop)
    (turn : ∀ n s, I n s -> wpAny (model prog w) A (pyNext it) (fun r s₁ => match r with
      | none => R (.ok .next) s₁
      | some v => wpAny (model prog w) A (letOwnedTupleGo target it v) (fun _ s₂ => wpAny (model prog w) A (assign target env v) (fun _ s₃ => wpAny (model prog w) A body (fun _ s₄ => ∃ m, m < n /\ I m s₄) FF s₃) FF s₂) FF s₁) FF s)
    (n : Nat) (h : I n s) : codeAny (model prog w) A (.compLoop (.ListComp elt gens scope pos) k it acc env) R s := by
  refine codeAny_loop rfl I (fun n s hI => ?_) n h
  show wpAny _ _ ((compTurn (.ListComp elt gens scope pos) k it acc env).onRaise (fun x => do noteFrame x env; theTreesLotGoes x)) _ _ s
  refine wpAny_noted ?_
  rw [heq]
  refine wpAny_noRaise ?_
  refine wpAny_bind (wpAny_standAt (wpAny_bind (thn (turn n s hI) fun r s₁ h₁ => ?_)))
  cases r with
  | none => exact wpAny_pure h₁
  | some v =>
    refine wpAny_bind (thn h₁ fun _ s₂ h₂ => ?_)
    exact wpAny_bind (thn h₂ fun _ s₃ h₃ => wpAny_bind (thn h₃ fun _ s₄ h₄ => wpAny_pure ⟨rfl, h₄⟩))
theorem zum (elt target iter : PySem.Expr) (gs : List Comprehension) (scope : Scope) (pos : Pos) (it acc : Value) (env : PySem.Env) :
    compTurn (.ListComp elt [⟨target, iter, [], 0⟩] scope pos) 0 it acc env = (standAt iter.pos >>= fun _ => pyNext it >>= fun r => match r with
      | none => pure (.done .next)
      | some v => letOwnedTupleGo target it v >>= fun _ => assign target env v >>= fun _ => (eval elt env >>= fun x => call (.builtin "list.append") [acc, x] >>= fun _ => pure ()) >>= fun _ => again (.compLoop (.ListComp elt [⟨target, iter, [], 0⟩] scope pos) 0 it acc env)) := by rfl
theorem turn_if (elt target iter c : PySem.Expr) (scope : Scope) (pos : Pos) (it acc : Value) (env : PySem.Env) :
    compTurn (.ListComp elt [⟨target, iter, [c], 0⟩] scope pos) 0 it acc env = (standAt iter.pos >>= fun _ => pyNext it >>= fun r => match r with
      | none => pure (.done .next)
      | some v => letOwnedTupleGo target it v >>= fun _ => assign target env v >>= fun _ => (isTrue c env (eval c env) >>= fun ok => if ok = true then (eval elt env >>= fun x => call (.builtin "list.append") [acc, x] >>= fun _ => pure ()) else pure ()) >>= fun _ => again (.compLoop (.ListComp elt [⟨target, iter, [c], 0⟩] scope pos) 0 it acc env)) := by
  rw [compTurn_list]
  refine congrArg _ (funext fun _ => congrArg _ (funext fun r => ?_))
  cases r with
  | none => rfl
  | some v =>
    simp only [List.forIn_cons, List.forIn_nil, if_true, bind_assoc, pure_bind]
    refine congrArg _ (funext fun _ => congrArg _ (funext fun _ => congrArg _ (funext fun ok => ?_)))
    cases ok <;> simp
theorem ziy (env : PySem.Env) : ∀ (ns : List (Str × NameKind)) (cs : List (Str × Addr)), (∀ y ∈ ns, y.2 = .free -> ∃ c, env.cells.lookup y.1 = some c) -> (∀ x c, cs.lookup x = some c -> env.cells.lookup x = some c) ->
    ∃ cl, (forIn ns cs fun (y : Str × NameKind) (r : List (Str × Addr)) => if (y.2 == NameKind.free) = true then cellOf env y.1 >>= fun a => pure (ForInStep.yield ((y.1, a) :: r)) else pure (ForInStep.yield r) : Sem _) = pure cl /\
      (∀ x c, cl.lookup x = some c -> env.cells.lookup x = some c) /\ (∀ x c, cs.lookup x = some c -> ∃ c', cl.lookup x = some c') /\ ∀ y ∈ ns, y.2 = .free -> ∃ c, cl.lookup y.1 = some c
  | [], cs, _, h2 => ⟨cs, by simp, h2, fun x c e => ⟨c, e⟩, fun y hy => nomatch hy⟩
  | (n, k) :: ns, cs, h1, h2 => by
    by_cases hk : k = .free
    · subst hk
      obtain ⟨a, ha⟩ := h1 (n, .free) List.mem_cons_self rfl
      have lk : ∀ x c, ((n, a) :: cs).lookup x = some c -> env.cells.lookup x = some c := fun x c e => by
        rw [List.lookup_cons] at e
        split at e
        · next q => cases e; rw [eq_of_beq q]; exact ha
        · exact h2 x c e
      obtain ⟨cl, e, p1, p2, p3⟩ := ziy env ns ((n, a) :: cs) (fun y hy => h1 y (List.mem_cons_of_mem _ hy)) lk
      refine ⟨cl, ?_, p1, fun x c q => ?_, fun y hy hf => ?_⟩
      · rw [List.forIn_cons]
        have ec : cellOf env n = pure a := by unfold cellOf; rw [ha]
        simp only [beq_self_eq_true, if_true, ec]
        exact e
      · by_cases hx : x = n
        · exact p2 x a (by rw [List.lookup_cons, hx]; simp)
        · exact p2 x c (by rw [List.lookup_cons, beq_eq_false_iff_ne.mpr hx]; exact q)
      · rcases List.mem_cons.mp hy with z | z
        · subst z; exact p2 n a (by simp [List.lookup_cons])
        · exact p3 y z hf
    · obtain ⟨cl, e, p1, p2, p3⟩ := ziy env ns cs (fun y hy => h1 y (List.mem_cons_of_mem _ hy)) h2
      refine ⟨cl, ?_, p1, p2, fun y hy hf => ?_⟩
      · rw [List.forIn_cons]
        have eb : (k == NameKind.free) = false := by simpa using hk
        simp only [eb, Bool.false_eq_true, if_false]
        exact e
      · rcases List.mem_cons.mp hy with z | z
        · subst z; exact absurd hf hk
        · exact p3 y z hf
theorem zrz {scope : Scope} {env : PySem.Env} (h : ∀ y ∈ scope.names, y.2 = .free -> ∃ c, env.cells.lookup y.1 = some c) :
    ∃ cl, closureFor scope env = pure cl /\ (∀ x c, cl.lookup x = some c -> env.cells.lookup x = some c) /\ ∀ y ∈ scope.names, y.2 = .free -> ∃ c, cl.lookup y.1 = some c := by
  obtain ⟨cl, e, p1, _, p3⟩ := ziy env scope.names [] h (fun x c q => nomatch q)
  exact ⟨cl, by unfold closureFor; simp only [bind_pure]; exact e, p1, p3⟩
end
end LD
namespace LD
open PySem PySem.Spec PyProof.Rows L2
def zcn (X : Cx) (own bn : List Str) (scope : Scope) (cl : List (Str × Addr)) (C : Addr) (fp : List Addr) (s : Shared) (H : Hp) : Cx :=
  { X with N := own ++ bn, s₀ := s, H₀ := H, env := compEnvC scope cl C X.env, outer := X.stack, ex := fp, fn := fun _ => false, pn := [], xe := FF }
theorem mem_of_lookup {β : Type} : ∀ {l : List (Str × β)} {x : Str} {k : β}, l.lookup x = some k -> (x, k) ∈ l
  | [], _, _, h => by cases h
  | (n, b) :: r, x, k, h => by
    rw [List.lookup_cons] at h
    split at h
    · next q => cases h; rw [eq_of_beq q]; exact List.mem_cons_self
    · exact List.mem_cons_of_mem _ (mem_of_lookup h)
theorem zf9 {env : PySem.Env} : ∀ {names : List (Str × NameKind)} {x : Str} {k : NameKind},
    (names.map fun (n, k) => if (k == NameKind.free && env.scope.kind == .function && env.kindOf n == some .cell) then (n, NameKind.cell) else (n, k)).lookup x = some k ->
    ∃ k0, (x, k0) ∈ names /\ names.lookup x = some k0 /\ (k = k0 \/ (k0 = .free /\ k = .cell))
  | [], _, _, h => by cases h
  | (n, k0) :: r, x, k, h => by
    have ih := @zf9 env r x k
    have h : List.lookup x ((if (k0 == NameKind.free && env.scope.kind == .function && env.kindOf n == some .cell) = true then (n, NameKind.cell) else (n, k0)) :: _) = some k := h
    cases hx : x == n with
    | true =>
      have e := eq_of_beq hx
      subst e
      refine ⟨k0, List.mem_cons_self, by simp [List.lookup_cons], ?_⟩
      split at h
      · next c =>
        simp [List.lookup_cons] at h
        simp at c
        exact .inr ⟨c.1.1, h.symm⟩
      · simp [List.lookup_cons] at h
        exact .inl h.symm
    | false =>
      have h' : List.lookup x (r.map fun (n, k) => if (k == NameKind.free && env.scope.kind == .function && env.kindOf n == some .cell) then (n, NameKind.cell) else (n, k)) = some k := by
        split at h <;> simpa [List.lookup_cons, hx] using h
      obtain ⟨k1, h1, h2, h3⟩ := ih h'
      exact ⟨k1, List.mem_cons_of_mem _ h1, by simp [List.lookup_cons, hx]; exact h2, h3⟩
theorem zlb {α β : Type} {R : α -> β -> Prop} : ∀ {l : List α} {r : List β} {i : Nat} {x : α}, Paired R l r -> l[i]? = some x -> ∃ y, r[i]? = some y /\ R x y
  | _, _, _, _, .nil, e => by simp at e
  | _, _, 0, _, .cons p _, e => by simp at e; subst e; exact ⟨_, rfl, p⟩
  | _, _, i + 1, x, .cons _ t, e => by
    obtain ⟨y, h1, h2⟩ := zlb (i := i) (x := x) t (by simpa using e)
    exact ⟨y, by simpa using h1, h2⟩
structure zeo (X : Cx) (own bn : List Str) (scope : Scope) : Prop where
  kind : scope.kind = .function
  nocell : ∀ y ∈ scope.names, y.2 ≠ .cell
  loc : ∀ y ∈ scope.names, y.2 = .local -> scope.names.lookup y.1 = some .local
  free : ∀ y ∈ scope.names, y.2 = .free -> X.env.kindOf y.1 = some .cell \/ X.env.kindOf y.1 = some .free
  dis : Paired (fun b x => (b = x /\ scope.names.lookup x ≠ some .local) \/ scope.names.lookup b = none) bn X.N
section
variable {X : Cx} {pins : List (Addr × Obj)} {σ : L2.St} {H : Hp} {s : Shared} {fp : List Addr} {scope : Scope} {cl : List (Str × Addr)} {own bn : List Str}
structure Cl (X : Cx) (scope : Scope) (cl : List (Str × Addr)) : Prop where
  sub : ∀ x c, cl.lookup x = some c -> X.env.cells.lookup x = some c
  has : ∀ y ∈ scope.names, y.2 = .free -> ∃ c, cl.lookup y.1 = some c
theorem zyt (I : Inv X pins σ H s) (S : zeo X own bn scope) (hcl : Cl X scope cl) (hfp : ∀ b ∈ fp, zfx X pins H b) (hfo : ∀ b ∈ fp, ∃ o, s.heap.get? b = some o) :
    (zcn X own bn scope cl s.heap.objs.size fp s H).Ok where
  mod := I.ok.mod
  kind := S.kind
  glob := I.ok.glob
  blt := I.ok.blt
  above := Nat.le_refl _
  inj := fun x y c h1 h2 => I.ok.inj x y c (hcl.sub x c h1) (hcl.sub y c h2)
  has := fun x h => by
    have key : ∀ k, (relabel scope X.env).names.lookup x = some k -> (k = .cell \/ k = .free) -> ∃ c, cl.lookup x = some c := fun k hk hh => by
      obtain ⟨k0, h1, h2, h3⟩ := zf9 hk
      have hf : k0 = .free := by
        rcases h3 with e | ⟨e, _⟩
        · rcases hh with z | z
          · exact absurd (e.symm.trans z) (S.nocell _ h1)
          · exact e.symm.trans z
        · exact e
      exact hcl.has _ h1 hf
    rcases h with h | h
    · exact key _ h (.inl rfl)
    · exact key _ h (.inr rfl)
  cab := fun x c h => nomatch h
  hd := I.ok.hd
  frames := I.ok.frames
  stk := .inl rfl
  exf := fun b hb => ⟨fun e => by
      obtain ⟨o, ho⟩ := hfo b hb
      exact absurd (Heap.lt_size ho) (by rw [e]; exact Nat.lt_irrefl _), fun x c e => (hfp b hb).2.2.2.2.1 x c (hcl.sub x c e)⟩
  bs := fun b o e => I.bs b o e
  bsz := Nat.le_trans I.ok.bsz I.sz
  noex := fun b o e hb => by
    rcases (hfp b hb).2.2.2.1 with z | z
    · exact I.ok.noex b o e z
    · exact absurd (Nat.lt_of_lt_of_le (Heap.lt_size e) (Nat.le_trans I.ok.bsz z)) (Nat.lt_irrefl _)
  exfs := fun b hb hx => by
    rcases List.mem_cons.mp (I.stkSub b hx) with e | e
    · exact (hfp b hb).2.1 e
    · exact (hfp b hb).2.2.1 e
  funs := I.stack
  frf := fun b hb => I.stkFree b hb
theorem zvx (I : Inv X pins σ H s) (S : zeo X own bn scope) (hcl : Cl X scope cl) (hfp : ∀ b ∈ fp, zfx X pins H b) (hfo : ∀ b ∈ fp, ∃ o, s.heap.get? b = some o) {h' : Heap} {t' : Nat} {m : Str -> Option Value}
    (hn : h'.Ns s.heap.objs.size m) (hk : ∀ b o, s.heap.get? b = some o -> h'.get? b = some o) :
    Inv (zcn X own bn scope cl s.heap.objs.size fp s H) [] (List.replicate own.length none ++ σ) H { s with heap := h', toks := t' } where
  ok := zyt I S hcl hfp hfo
  os := rfl
  bare := I.bare
  base := Un.kept hk
  loc := by
    refine ⟨m, hn, fun i x v e1 e2 hv => ?_⟩
    have e1 : (own ++ bn)[i]? = some x := e1
    have hi : own.length ≤ i := by
      by_cases q : i < own.length
      · rw [List.getElem?_append_left (by simpa using q), List.getElem?_replicate] at e2
        simp [q] at e2
      · omega
    rw [List.getElem?_append_right hi] at e1
    rw [List.getElem?_append_right (by simpa using hi)] at e2
    simp only [List.length_replicate] at e2
    have hx : X.N[i - own.length]? = some x /\ scope.names.lookup x ≠ some .local := by
      rcases zlb S.dis e1 with ⟨y, h1, ⟨h2, h3⟩ | h2⟩
      · subst h2; exact ⟨h1, h3⟩
      · exfalso
        have no : ∀ k, (relabel scope X.env).names.lookup x ≠ some k := fun k hk => by
          obtain ⟨k0, _, h3, _⟩ := zf9 hk
          rw [h2] at h3; cases h3
        rcases hv with z | z | z
        · exact no _ z
        · exact no _ z
        · exact no _ z
    have key : ∀ k, (relabel scope X.env).names.lookup x = some k -> (k = .local \/ k = .cell \/ k = .free) -> ∃ c, (k = .cell \/ k = .free) /\ cl.lookup x = some c /\ (X.env.kindOf x = some .cell \/ X.env.kindOf x = some .free) := fun k hk2 hh => by
      obtain ⟨k0, h1, h2, h3⟩ := zf9 hk2
      have nl : k0 ≠ .local := fun e => hx.2 (by rw [h2, e])
      have hf : k0 = .free := by
        rcases h3 with e | ⟨e, _⟩
        · rcases hh with z | z | z
          · exact absurd (e.symm.trans z) nl
          · exact absurd (e.symm.trans z) (S.nocell _ h1)
          · exact e.symm.trans z
        · exact e
      obtain ⟨c, hc⟩ := hcl.has _ h1 hf
      refine ⟨c, ?_, hc, S.free _ h1 hf⟩
      rcases hh with z | z | z
      · rcases h3 with e | ⟨_, e⟩
        · rw [hf] at e; rw [e] at z; cases z
        · rw [e] at z; cases z
      · exact .inl z
      · exact .inr z
    have fin : ∀ k, (relabel scope X.env).names.lookup x = some k -> (k = .local \/ k = .cell \/ k = .free) -> ∃ u, RelV v u /\ Look (compEnvC scope cl s.heap.objs.size X.env) h' m x u := fun k hk2 hh => by
      obtain ⟨c, h1, h2, h3⟩ := key k hk2 hh
      obtain ⟨m0, _, hl⟩ := I.loc
      obtain ⟨u, r, l⟩ := hl _ x v hx.1 e2 (.inr h3)
      refine ⟨u, r, .inr ⟨?_, c, h2, ?_⟩⟩
      · rcases h1 with z | z
        · subst z; exact .inl hk2
        · subst z; exact .inr hk2
      · rcases l with ⟨z, _⟩ | ⟨_, c', hc', hcell⟩
        · rcases h3 with q | q
          · rw [z] at q; cases q
          · rw [z] at q; cases q
        · rw [hcl.sub x c h2] at hc'; cases hc'
          obtain ⟨o, ho, hd⟩ := hcell
          exact ⟨o, hk _ _ ho, hd⟩
    rcases hv with z | z | z
    · exact fin _ z (.inl rfl)
    · exact fin _ z (.inr (.inl rfl))
    · exact fin _ z (.inr (.inr rfl))
  cell := fun x c e => by
    obtain ⟨v, o, ho, hd⟩ := I.cell x c (hcl.sub x c e)
    exact ⟨v, o, hk _ _ ho, hd⟩
  free := I.hok.fresh (Nat.le_refl _)
  freeC := fun x c e => I.freeC x c (hcl.sub x c e)
  pin := fun p hp => nomatch hp
  hok := I.hok.kept hk
  len := by
    show (List.replicate own.length none ++ σ).length = (own ++ bn).length
    have := Paired.length S.dis
    simp [I.len, this]
theorem comp_back (I : Inv X pins σ H s) (hfp : ∀ b ∈ fp, zfx X pins H b) {pins' : List (Addr × Obj)} {σ' : L2.St} {H' : Hp} {s' : Shared} {C : Addr} (I' : Inv (zcn X own bn scope cl C fp s H) pins' σ' H' s') : Inv X pins σ H' s' :=
  I.call' (ch := fp) I'.os I'.base I'.hok I'.bare fun b hb => ⟨(hfp b hb).2.2.2.1, (hfp b hb).2.1, (hfp b hb).2.2.2.2.1, (hfp b hb).2.2.2.2.2⟩
theorem ztz (I : Inv X pins σ H s) {σ' : L2.St} {H' : Hp} {s' : Shared} (hf : H' s.heap.objs.size = none) (I' : Inv X pins σ' H' s') {h'' : Heap} (hs : Heap.SameBut s.heap.objs.size s'.heap h'') : Inv X pins σ' H' { s' with heap := h'' } :=
  I'.turned (t' := s'.toks) (fun b o hb e => (hs.2 b hb).trans e) hf (Nat.ne_of_gt I.lt) (.inr I.sz) (fun x c e z => by
    obtain ⟨v, q⟩ := I.cell x c e
    exact absurd q.lt (by rw [z]; exact Nat.lt_irrefl _)) fun p hp z => absurd (Heap.lt_size (I.pin p hp).1) (by rw [z]; exact Nat.lt_irrefl _)
end
end LD
namespace LD
open PySem PySem.Spec PyProof.Rows L2
structure zfm (a : Addr) (μ : Mu) (H : Hp) (μ' : Mu) (H' : Hp) : Prop extends ExtW μ H μ' H' where
  pr : μ'.priv = μ.priv
  pk : ∀ b ∈ μ.priv, b ≠ a -> H' b = H b
theorem zfm.refl {a : Addr} {μ : Mu} {H : Hp} : zfm a μ H μ H := ⟨.refl, rfl, fun _ _ _ => rfl⟩
theorem zfm.trans {a : Addr} {μ μ1 μ2 : Mu} {H H1 H2 : Hp} (x : zfm a μ H μ1 H1) (y : zfm a μ1 H1 μ2 H2) : zfm a μ H μ2 H2 :=
  ⟨x.toExtW.trans y.toExtW, y.pr.trans x.pr, fun b hb n => (y.pk b (by rw [x.pr]; exact hb) n).trans (x.pk b hb n)⟩
theorem Ext.toD {a : Addr} {μ μ' : Mu} {H H' : Hp} (x : Ext μ H μ' H') : zfm a μ H μ' H' := ⟨x.toExtW, x.pr, fun b hb _ => x.pk b hb⟩
def slots : Tgt -> List Nat
  | .one i => [i]
  | .tup l => l
def Clear (W : List Nat) (ρ : Env) : Prop := ∀ i ∈ W, ∀ d, ρ[i]? ≠ some (some d)
section
variable {fa : Fa} {K : PySem.W.Frag} {μ μ' : Mu} {H H' : Hp} {σ : L2.St} {ρ ρ1 : Env} {M : Mem} {a : Addr}
theorem zbr.weak (h : zbr fa K μ H σ ρ1) (hl : ρ1.length = ρ.length) (w : ∀ (i : Nat) d, ρ[i]? = some (some d) -> ρ1[i]? = some (some d)) : zbr fa K μ H σ ρ :=
  ⟨h.len.trans hl, fun i d e => h.at' i d (w i d e)⟩
theorem zkz : ∀ {l : List Nat} {ds : List D} {ρ ρ1 : Env}, zfy l ds ρ = some ρ1 -> ρ1.length = ρ.length /\ ∀ i, i ∉ l -> ρ1[i]? = ρ[i]?
  | [], [], ρ, ρ1, h => by cases h; exact ⟨rfl, fun _ _ => rfl⟩
  | _ :: _, [], _, _, h => by cases h
  | [], _ :: _, _, _, h => by cases h
  | j :: l, d :: ds, ρ, ρ1, h => by
    obtain ⟨h1, h2⟩ := zkz (l := l) (ds := ds) h
    refine ⟨by simpa using h1, fun i hi => ?_⟩
    rw [h2 i (fun z => hi (List.mem_cons_of_mem _ z)), List.getElem?_set_ne (fun z => hi (by rw [z]; exact List.mem_cons_self))]
theorem zna {t : Tgt} {d : D} (h : zdt t d ρ = some ρ1) : ρ1.length = ρ.length /\ ∀ i, i ∉ slots t -> ρ1[i]? = ρ[i]? := by
  cases t with
  | one j =>
    have h : some (ρ.set j (some d)) = some ρ1 := h
    cases h
    exact ⟨by simp, fun i hi => List.getElem?_set_ne (fun z => hi (by rw [z]; exact List.mem_cons_self))⟩
  | tup l =>
    cases d with
    | tup ds => exact zkz h
    | _ => cases h
theorem zbr.unbind {t : Tgt} {d : D} (h : zdt t d ρ = some ρ1) (c : Clear (slots t) ρ) (r : zbr fa K μ H σ ρ1) : zbr fa K μ H σ ρ := by
  obtain ⟨h1, h2⟩ := zna h
  refine r.weak h1 fun i d e => ?_
  by_cases hi : i ∈ slots t
  · exact absurd e (c i hi d)
  · rw [h2 i hi]; exact e
theorem RelM.writeP (h : RelM fa K μ H M) {ws vs : List V} (e : a ∈ μ.priv) (hH : H a = some (.lst vs)) : RelM fa K μ (upd H a (.lst ws)) M := by
  have x : ExtW μ H μ (upd H a (.lst ws)) := ExtW.write hH (.inr e)
  refine ⟨fun k ds q => ?_, h.out, h.inj, fun b hb => ⟨?_, (h.pv b hb).2⟩⟩
  · obtain ⟨b, us, h1, h2, h3⟩ := h.at' k ds q
    have nb : b ≠ a := fun z => (h.pv a e).2 k (by rw [h1, z])
    exact ⟨b, us, h1, by rw [za6 nb]; exact h2, h3.extW x⟩
  · by_cases hb' : b = a
    · subst hb'; exact ⟨ws, zc8⟩
    · obtain ⟨us, q⟩ := (h.pv b hb).1
      exact ⟨us, by rw [za6 hb']; exact q⟩
theorem zfm.writeP {ws vs : List V} (e : a ∈ μ.priv) (hH : H a = some (.lst vs)) : zfm a μ H μ (upd H a (.lst ws)) :=
  ⟨ExtW.write hH (.inr e), rfl, fun b _ n => by rw [za6 n]⟩
end
def WB (fa : Fa) (K : PySem.W.Frag) (a : Addr) (μ : Mu) (H : Hp) (ρ : Env) (Q : L2.St -> Hp -> Prop) (acc : List D) (M' : Mem) : Prop :=
  ∀ σ' H' μ' vs', zfm a μ H μ' H' -> zbr fa K μ' H' σ' ρ -> RelM fa K μ' H' M' -> H' a = some (.lst vs') -> za0 fa K μ' H' acc vs' -> Q σ' H'
theorem WB.ext {fa : Fa} {K : PySem.W.Frag} {a : Addr} {μ μ1 : Mu} {H H1 : Hp} {ρ : Env} {Q : L2.St -> Hp -> Prop} {acc : List D} {M' : Mem} (h : WB fa K a μ H ρ Q acc M') (x : zfm a μ H μ1 H1) : WB fa K a μ1 H1 ρ Q acc M' :=
  fun σ' H' μ' vs' y e m h1 h2 => h σ' H' μ' vs' (x.trans y) e m h1 h2
def DB (fa : Fa) (X : Cx) (a : Addr) (W : List Nat) (body : Sem Unit) (g : Env -> List D -> Mem -> Res (List D)) : Prop :=
  ∀ (pins : List (Addr × Obj)) (s : Shared) (σ : L2.St) (H : Hp) (Q : L2.St -> Hp -> Prop) (μ : Mu) (ρ : Env) (M : Mem) (acc : List D) (vs : List V), Inv X pins σ H s -> zbr fa X.K μ H σ ρ -> RelM fa X.K μ H M -> Clear W ρ -> a ∈ μ.priv -> H a = some (.lst vs) -> za0 fa X.K μ H acc vs ->
    okE (g ρ acc M) (WB fa X.K a μ H ρ Q) -> wpAny (model X.prog X.w) X.A body (fun _ s' => ∃ σ' H', Inv X pins σ' H' s' /\ Q σ' H') X.xe s
def zci (ge : Env -> Mem -> Res D) : Env -> List D -> Mem -> Res (List D) := fun ρ acc M => (ge ρ M).bind fun x M => if acc.length < sz then .ok (acc ++ [x]) M else .bad
def gIf (gc : Env -> Mem -> Res Bool) (g : Env -> List D -> Mem -> Res (List D)) : Env -> List D -> Mem -> Res (List D) := fun ρ acc M => (gc ρ M).bind fun k M => if k then g ρ acc M else .ok acc M
def zfr (t : Tgt) (g : Env -> List D -> Mem -> Res (List D)) (ρ : Env) : List D -> D -> Mem -> Res (List D) := fun acc d M => (ofO M (zdt t d ρ)).bind fun ρ1 M => g ρ1 acc M
def gGen (t : Tgt) (gw : Env -> Mem -> Res Walk) (g : Env -> List D -> Mem -> Res (List D)) : Env -> List D -> Mem -> Res (List D) := fun ρ acc M => (gw ρ M).bind fun w M => zfc (zfr t g ρ) w acc M
section
variable {fa : Fa} {X : Cx} {a : Addr}
theorem zpn {elt : PySem.Expr} {ge : Env -> Mem -> Res D} (he : DE fa X elt ge) : DB fa X a [] (eval elt X.env >>= fun x => call (.builtin "list.append") [.ref a, x] >>= fun _ => pure ()) (zci ge) := by
  intro pins s σ H Q μ ρ M acc vs I hE hM hc ha hH hr h
  obtain ⟨x, M1, e, q⟩ := zbd h
  split at q
  · next hz =>
    have q : WB fa X.K a μ H ρ Q (acc ++ [x]) M1 := q
    refine wpAny_bind (thn (he pins s σ H (fun v H1 => ∃ μ1, Ext μ H μ1 H1 /\ RelM fa X.K μ1 H1 M1 /\ Rep fa X.K μ1 H1 x v) I ⟨μ, ρ, M, hE, hM, ?_⟩) fun u s1 ⟨v, H1, I1, rv, μ1, x1, m1, r1⟩ => ?_)
    · rw [e]; exact fun v H1 μ1 x1 m1 r1 => ⟨μ1, x1, m1, r1⟩
    have hH1 : H1 a = some (.lst vs) := by rw [x1.pk a ha]; exact hH
    have ha1 : a ∈ μ1.priv := by rw [x1.pr]; exact ha
    have hl : vs.length < sizeLine := by rw [hr.length, <- zes]; exact hz
    refine wpAny_bind (thn (zm5 pins s1 σ H1 (.ref a) [v] (.ref a) [u] (fun _ H2 => H2 = upd H1 a (.lst (vs ++ [v]))) I1 rfl (.cons rv .nil) ⟨a, vs, v, rfl, rfl, hH1, hl, rfl⟩) fun _ s2 ⟨_, H2, I2, _, e2⟩ => wpAny_pure ⟨σ, H2, I2, ?_⟩)
    subst e2
    have xd : zfm a μ1 H1 μ1 (upd H1 a (.lst (vs ++ [v]))) := zfm.writeP ha1 hH1
    exact q σ _ μ1 (vs ++ [v]) (x1.toD.trans xd) ((hE.ext x1).extW xd.toExtW) (m1.writeP ha1 hH1) zc8 (((hr.ext x1).append (.one r1)).extW xd.toExtW)
  · exact q.elim
theorem db_if {c : PySem.Expr} {gc : Env -> Mem -> Res Bool} {W : List Nat} {body : Sem Unit} {g : Env -> List D -> Mem -> Res (List D)} (hc : DT fa X c gc) (hb : DB fa X a W body g) :
    DB fa X a W (isTrue c X.env (eval c X.env) >>= fun ok => if ok = true then body else pure ()) (gIf gc g) := by
  intro pins s σ H Q μ ρ M acc vs I hE hM hw ha hH hr h
  obtain ⟨k, M1, e, q⟩ := zbd h
  refine wpAny_bind (thn (hc pins s σ H (fun b H1 => b = k /\ ∃ μ1, Ext μ H μ1 H1 /\ RelM fa X.K μ1 H1 M1) I ⟨μ, ρ, M, hE, hM, ?_⟩) fun b s1 ⟨H1, I1, eb, μ1, x1, m1⟩ => ?_)
  · rw [e]; exact fun H1 μ1 x1 m1 => ⟨rfl, μ1, x1, m1⟩
  subst eb
  have hH1 : H1 a = some (.lst vs) := by rw [x1.pk a ha]; exact hH
  have ha1 : a ∈ μ1.priv := by rw [x1.pr]; exact ha
  cases b with
  | true =>
    rw [if_pos rfl]
    exact hb pins s1 σ H1 Q μ1 ρ M1 acc vs I1 (hE.ext x1) m1 hw ha1 hH1 (hr.ext x1) (zbv q fun _ _ w => w.ext x1.toD)
  | false =>
    rw [if_neg Bool.false_ne_true]
    have q : WB fa X.K a μ H ρ Q acc M1 := q
    exact wpAny_pure ⟨σ, H1, I1, q σ H1 μ1 vs x1.toD (hE.ext x1) m1 hH1 (hr.ext x1)⟩
theorem zyu {elt : PySem.Expr} {gens : List Comprehension} {scope : Scope} {pos p : Pos} {k : Nat} {tg : PySem.Expr} {body : Sem Unit} {t : Tgt} {W : List Nat} {g : Env -> List D -> Mem -> Res (List D)} {it : Addr} {fp : List Addr} {tn : Nat -> Heap -> Prop} {J : It}
    (heq : compTurn (.ListComp elt gens scope pos) k (.ref it) (.ref a) X.env = (standAt p >>= fun _ => pyNext (.ref it) >>= fun r => match r with
      | none => pure (.done .next)
      | some v => letOwnedTupleGo tg (.ref it) v >>= fun _ => assign tg X.env v >>= fun _ => body >>= fun _ => again (.compLoop (.ListComp elt gens scope pos) k (.ref it) (.ref a) X.env)))
    (hx : X.xe = FF) (hcalm : X.calm = true) (T : Turn X.prog X.w X.K tg J fp it tn) (hg : PG X tg (gT fa X.K t)) (hb : DB fa X a W body g) (hW : ∀ i ∈ W, i ∉ slots t)
    {pins : List (Addr × Obj)} {s : Shared} {σ : L2.St} {H : Hp} {Q : L2.St -> Hp -> Prop} {μ : Mu} {ρ : Env} {M : Mem} {acc : List D} {vs : List V} {w : Walk} (I : Inv X pins σ H s) (st : tn 0 s.heap) (hf : ∀ b ∈ fp, zfx X pins H b) (hE : zbr fa X.K μ H σ ρ) (hM : RelM fa X.K μ H M)
    (hcl : Clear (slots t ++ W) ρ) (ha : a ∈ μ.priv) (hH : H a = some (.lst vs)) (hr : za0 fa X.K μ H acc vs) (wk : zen fa X.K μ H w J) (q : okE (zfc (zfr t g ρ) w acc M) (WB fa X.K a μ H ρ Q)) :
    codeAny (model X.prog X.w) X.A (.compLoop (.ListComp elt gens scope pos) k (.ref it) (.ref a) X.env) (fun r s' => r = .ok .next /\ ∃ σ' H', Inv X pins σ' H' s' /\ Q σ' H') s := by
  have stat : ∀ {H' : Hp}, (∀ b ∈ fp, H' b = none) -> ∀ b ∈ fp, zfx X pins H' b := fun hn b hb => ⟨hn b hb, (hf b hb).2⟩
  have clt : Clear (slots t) ρ := fun i hi => hcl i (List.mem_append_left _ hi)
  have clW : ∀ d ρ1, zdt t d ρ = some ρ1 -> Clear W ρ1 := fun d ρ1 e i hi d' z => by
    rw [(zna e).2 i (hW i hi)] at z
    exact hcl i (List.mem_append_right _ hi) d' z
  let P : Nat -> Nat -> Shared -> Prop := fun m i s' => ∃ σ' H' μ' M' acc' vs', Inv X pins σ' H' s' /\ tn i s'.heap /\ (∀ b ∈ fp, H' b = none) /\ zfm a μ H μ' H' /\ zbr fa X.K μ' H' σ' ρ /\ RelM fa X.K μ' H' M' /\ H' a = some (.lst vs') /\ za0 fa X.K μ' H' acc' vs' /\
    okE (zez (zfr t g ρ) w m i acc' M') (WB fa X.K a μ H ρ Q)
  have P0 : ∃ m, P m 0 s := ⟨_, σ, H, μ, M, acc, vs, I, st, fun b hb => (hf b hb).1, .refl, hE, hM, hH, hr, q⟩
  obtain ⟨m0, P0⟩ := P0
  have hturn : ∀ (n : Nat) (i : Nat) (s3 : Shared), P n i s3 -> wpAny (model X.prog X.w) X.A (pyNext (.ref it)) (fun r s₁ => match r with
      | none => (∃ σ' H', Inv X pins σ' H' s₁ /\ Q σ' H')
      | some v => wpAny (model X.prog X.w) X.A (letOwnedTupleGo tg (.ref it) v) (fun _ s₂ => wpAny (model X.prog X.w) X.A (assign tg X.env v) (fun _ s₃ => wpAny (model X.prog X.w) X.A body (fun _ s₄ => ∃ m, m < n /\ P m (i + 1) s₄) FF s₃) FF s₂) FF s₁) FF s3 := by
    rintro n i s3 ⟨σ3, H3, μ3, M3, acc3, vs3, I3, st3, fr3, x3, hE3, hM3, hH3, hr3, q3⟩
    have ha3 : a ∈ μ3.priv := by rw [x3.pr]; exact ha
    have one : ∀ (d : D) (rest : List D -> Mem -> Res (List D)) (next : List D -> Mem -> Prop), J.go i H3 -> (∀ x H', J.yld i H3 x H' -> Ext μ3 H3 μ3 H' /\ RelM fa X.K μ3 H' M3 /\ Rep fa X.K μ3 H' d x) -> okE ((zfr t g ρ acc3 d M3).bind rest) (WB fa X.K a μ H ρ Q) ->
        (∀ σ' H' μ' M' acc' vs' s', Inv X pins σ' H' s' -> tn (i + 1) s'.heap -> (∀ b ∈ fp, H' b = none) -> zfm a μ H μ' H' -> zbr fa X.K μ' H' σ' ρ -> RelM fa X.K μ' H' M' -> H' a = some (.lst vs') -> za0 fa X.K μ' H' acc' vs' -> okE (rest acc' M') (WB fa X.K a μ H ρ Q) -> ∃ m, m < n /\ P m (i + 1) s') ->
        wpAny (model X.prog X.w) X.A (pyNext (.ref it)) (fun r s₁ => match r with
          | none => (∃ σ' H', Inv X pins σ' H' s₁ /\ Q σ' H')
          | some v => wpAny (model X.prog X.w) X.A (letOwnedTupleGo tg (.ref it) v) (fun _ s₂ => wpAny (model X.prog X.w) X.A (assign tg X.env v) (fun _ s₃ => wpAny (model X.prog X.w) X.A body (fun _ s₄ => ∃ m, m < n /\ P m (i + 1) s₄) FF s₃) FF s₂) FF s₁) FF s3 := by
      intro d rest next go yl qd fin
      refine thn (T.item X rfl rfl rfl hcalm i pins s3 σ3 H3 FF I3 (stat fr3) st3 go) fun r s4 ⟨u, hr4, h4⟩ => ?_
      subst hr4
      refine thn h4 fun _ s5 ⟨x, H5, I5, r5, y5, st5, fr5⟩ => ?_
      obtain ⟨x5, hM5, rd⟩ := yl x H5 y5
      have I5' := I5.pinned (stat fr5) (T.obj _ _ st5)
      obtain ⟨acc6, M6, e6, q6⟩ := zbd qd
      obtain ⟨ρ1, M7, e7, e8⟩ := zd9 e6
      cases eb : zdt t d ρ with
      | none => rw [eb] at e7; cases e7
      | some ρ2 =>
        rw [eb] at e7
        cases e7
        have hg' := hg _ s5 σ3 H5 x u (fun σ' H' => H' = H5 /\ zbr fa X.K μ3 H5 σ' ρ1) I5' r5 ⟨μ3, ρ, _, d, ρ1, hE3.ext x5, hM5, rd, eb, fun σ1 h1 => ⟨rfl, h1⟩⟩
        rw [hx] at hg'
        refine thn hg' fun _ s6 ⟨σ6, H6, I6, eH, hE6⟩ => ?_
        subst eH
        have hH6 : H6 a = some (.lst vs3) := by rw [x5.pk a ha3]; exact hH3
        have hb' := hb _ s6 σ6 H6 (fun σ' H' => ∃ μ' vs', zfm a μ3 H6 μ' H' /\ zbr fa X.K μ' H' σ' ρ1 /\ RelM fa X.K μ' H' M6 /\ H' a = some (.lst vs') /\ za0 fa X.K μ' H' acc6 vs') μ3 ρ1 _ acc3 vs3 I6 hE6 hM5 (clW d ρ1 eb) ha3 hH6 (hr3.ext x5) (by
          rw [e8]; exact fun σ' H' μ' vs' z1 z2 z3 z4 z5 => ⟨μ', vs', z1, z2, z3, z4, z5⟩)
        rw [hx] at hb'
        refine thn hb' fun _ s7 ⟨σ7, H7, I7, μ7, vs7, x7, hE7, hM7, hH7, hr7⟩ => ?_
        refine fin σ7 H7 μ7 M6 acc6 vs7 s7 I7.unpinned (T.keep _ _ _ st5 fun b hb o e => (I7.pin (b, o) (List.mem_append_right _ (List.mem_append_right _ (zg6 hb e)))).1) (fun b hb => ?_) ((x3.trans x5.toD).trans x7) (hE7.unbind eb clt) hM7 hH7 hr7 q6
        obtain ⟨o, e, dd⟩ := T.obj _ _ st5 b hb
        exact (I7.pin (b, o) (List.mem_append_right _ (List.mem_append_right _ (zg6 hb e)))).2.1
    have stop : J.stop i H3 -> okE (.ok acc3 M3) (WB fa X.K a μ H ρ Q) -> wpAny (model X.prog X.w) X.A (pyNext (.ref it)) (fun r s₁ => match r with
          | none => (∃ σ' H', Inv X pins σ' H' s₁ /\ Q σ' H')
          | some v => wpAny (model X.prog X.w) X.A (letOwnedTupleGo tg (.ref it) v) (fun _ s₂ => wpAny (model X.prog X.w) X.A (assign tg X.env v) (fun _ s₃ => wpAny (model X.prog X.w) X.A body (fun _ s₄ => ∃ m, m < n /\ P m (i + 1) s₄) FF s₃) FF s₂) FF s₁) FF s3 := fun hs q => by
      refine thn (T.done X rfl rfl rfl hcalm i pins s3 σ3 H3 FF I3 (stat fr3) st3 hs) fun r s4 ⟨hr4, I4⟩ => ?_
      subst hr4
      have q : WB fa X.K a μ H ρ Q acc3 M3 := q
      exact ⟨σ3, H3, I4, q σ3 H3 μ3 vs3 x3 hE3 hM3 hH3 hr3⟩
    cases n with
    | zero => exact q3.elim
    | succ n =>
      unfold zez at q3
      cases e2 : w M3 with
      | none => rw [e2] at q3; exact q3.elim
      | some ds =>
        rw [e2] at q3
        dsimp only at q3
        obtain ⟨go, stp⟩ := wk μ3 H3 M3 ds x3.toExtW hM3 e2
        cases ed : ds[i]? with
        | none =>
          rw [ed] at q3
          exact stop (stp i (List.getElem?_eq_none_iff.mp ed)) q3
        | some d =>
          rw [ed] at q3
          obtain ⟨g1, g2⟩ := go i d ed
          refine one d (zez (zfr t g ρ) w n (i + 1)) (fun _ _ => True) g1 g2 q3 ?_
          intro σ' H' μ' M' acc' vs' s' z1 z2 z3 z4 z5 z6 z7 z8 z9
          exact ⟨n, by omega, σ', H', μ', M', acc', vs', z1, z2, z3, z4, z5, z6, z7, z8, z9⟩
  refine zty heq (fun n s' => ∃ i, P n i s') (fun n s3 ⟨i, h3⟩ => ?_) m0 ⟨0, P0⟩
  refine thn (hturn n i s3 h3) fun r s1 h => ?_
  cases r with
  | none => exact ⟨rfl, h⟩
  | some v => exact thn h fun _ s2 h => thn h fun _ s3 h => thn h fun _ s4 ⟨m, hm, h⟩ => ⟨m, hm, i + 1, h⟩
end
end LD
namespace LD
open PySem PySem.Spec PyProof.Rows L2
section
variable {prog : Program} {w : World} {A : Around} {s : Shared} {R : Result -> Shared -> Prop}
end
section
variable {fa : Fa} {X : Cx} {a : Addr}
end
end LD
namespace LD
open PySem PySem.Spec PyProof.Rows L2
section
variable {fa : Fa} {K : PySem.W.Frag} {μ1 μ' : Mu} {H1 H' : Hp} {M1 M' : Mem} {a : Addr}
def muP (μ : Mu) (a : Addr) : Mu := ⟨μ.pub, a :: μ.priv⟩
theorem zji (h : RelM fa K μ1 H1 M1) (ha : H1 a = none) (o : HO) : ExtW μ1 H1 (muP μ1 a) (upd H1 a o) := by
  have x : ExtW μ1 H1 μ1 (upd H1 a o) := (Ext.alloc h ha).toExtW
  refine ⟨x.mu, x.tups, fun b vs e n => ⟨(x.lsts b vs e n).1, fun z => ?_⟩, x.frzs⟩
  rcases z with z | z
  · exact n (.inl z)
  · rcases List.mem_cons.mp z with z | z
    · subst z; rw [ha] at e; cases e
    · exact n (.inr z)
theorem zsv (h : RelM fa K μ1 H1 M1) (ha : H1 a = none) (vs : List V) : RelM fa K (muP μ1 a) (upd H1 a (.lst vs)) M1 := by
  have x := zji h ha (.lst vs)
  refine ⟨fun k ds e => ?_, h.out, h.inj, fun b hb => ?_⟩
  · obtain ⟨b, ws, h1, h2, h3⟩ := h.at' k ds e
    exact ⟨b, ws, h1, by rw [za6 (zbl h2 ha)]; exact h2, h3.extW x⟩
  · rcases List.mem_cons.mp hb with z | z
    · subst z
      exact ⟨⟨vs, zc8⟩, fun k e => by
        obtain ⟨_, _, _, q, _⟩ := h.mu_lt e
        rw [ha] at q; cases q⟩
    · obtain ⟨⟨ws, q⟩, n⟩ := h.pv b z
      exact ⟨⟨ws, by rw [za6 (zbl q ha)]; exact q⟩, n⟩
theorem zxo {m : Bool} {acc : List D} {vs : List V} {Q : VK} (h : RelM fa K μ1 H1 M1) (ha : H1 a = none) (x : zfm a (muP μ1 a) (upd H1 a (.lst [])) μ' H') (hM : RelM fa K μ' H' M') (hH : H' a = some (.lst vs)) (hr : za0 fa K μ' H' acc vs)
    (q : okE (zb1 m acc M') (zbs fa K μ1 H1 Q)) : Q (.ref a) H' := by
  have na : a ∉ μ1.priv := fun z => h.pne ha z rfl
  have hp : μ'.priv = a :: μ1.priv := x.pr
  have nk : ∀ k, μ'.pub k ≠ some a := (hM.pv a (by rw [hp]; exact List.mem_cons_self)).2
  have x0 := zji h ha (.lst [])
  have xe : Ext μ1 H1 ⟨μ'.pub, μ1.priv⟩ H' := by
    refine ⟨⟨fun k b e => x.mu k b e, fun b ws e => x.tups b ws (x0.tups b ws e), fun b ws e n => ?_, fun b ob u e => x.frzs b ob u (x0.frzs b ob u e)⟩, rfl, fun b hb => ?_⟩
    · obtain ⟨z1, z2⟩ := x0.lsts b ws e n
      obtain ⟨z3, z4⟩ := x.lsts b ws z1 z2
      refine ⟨z3, fun z => z4 ?_⟩
      rcases z with z | z
      · exact .inl z
      · exact .inr (by rw [hp]; exact List.mem_cons_of_mem _ z)
    · have nb : b ≠ a := fun e => na (by rw [<- e]; exact hb)
      rw [x.pk b (List.mem_cons_of_mem _ hb) nb, za6 nb]
  have xw : ExtW μ' H' ⟨μ'.pub, μ1.priv⟩ H' := ⟨fun _ _ e => e, fun _ _ e => e, fun b ws e n => ⟨e, fun z => n (z.elim .inl fun z => .inr (by rw [hp]; exact List.mem_cons_of_mem _ z))⟩, fun _ _ _ e => e⟩
  have me : RelM fa K ⟨μ'.pub, μ1.priv⟩ H' M' := ⟨fun k ds e => let ⟨b, ws, h1, h2, h3⟩ := hM.at' k ds e; ⟨b, ws, h1, h2, h3.extW xw⟩, hM.out, hM.inj, fun b hb => hM.pv b (by rw [hp]; exact List.mem_cons_of_mem _ hb)⟩
  have re : za0 fa K ⟨μ'.pub, μ1.priv⟩ H' acc vs := hr.extW xw
  have nMt : ¬ (⟨μ'.pub, μ1.priv⟩ : Mu).Mt a := fun z => z.elim (fun ⟨k, e⟩ => nk k e) na
  unfold zb1 at q
  split at q
  · cases m with
    | false =>
      have q : zbs fa K μ1 H1 Q (.lst acc) M' := q
      exact q (.ref a) H' _ xe me ⟨a, vs, rfl, ⟨hH, nMt⟩, re⟩
    | true =>
      have q : zbs fa K μ1 H1 Q (.cell M'.length) (M' ++ [acc]) := q
      have pc : ∀ k b, (zfu ⟨μ'.pub, μ1.priv⟩ M'.length a).pub k = some b -> (k = M'.length /\ b = a) \/ (k ≠ M'.length /\ μ'.pub k = some b) := fun k b e => by
        have e : (if k = M'.length then some a else μ'.pub k) = some b := e
        split at e
        · next z => cases e; exact .inl ⟨z, rfl⟩
        · next z => exact .inr ⟨z, e⟩
      have mc : ∀ k b, μ'.pub k = some b -> (zfu ⟨μ'.pub, μ1.priv⟩ M'.length a).pub k = some b := fun k b e => by
        show (if k = M'.length then some a else μ'.pub k) = some b
        split
        · next z => rw [z, hM.out _ (Nat.le_refl _)] at e; cases e
        · exact e
      have ac : (zfu ⟨μ'.pub, μ1.priv⟩ M'.length a).pub M'.length = some a := by
        show (if M'.length = M'.length then some a else _) = some a
        rw [if_pos rfl]
      have nc : ∀ b, ¬ μ'.Mt b -> ¬ (zfu ⟨μ'.pub, μ1.priv⟩ M'.length a).Mt b := fun b n z => by
        rcases z with ⟨k, z⟩ | z
        · rcases pc k b z with ⟨_, e⟩ | ⟨_, e⟩
          · exact n (.inr (by rw [hp, e]; exact List.mem_cons_self))
          · exact n (.inl ⟨k, e⟩)
        · exact n (.inr (by rw [hp]; exact List.mem_cons_of_mem _ z))
      have xc : ExtW μ' H' (zfu ⟨μ'.pub, μ1.priv⟩ M'.length a) H' := ⟨mc, fun _ _ e => e, fun b ws e n => ⟨e, nc b n⟩, fun _ _ _ e => e⟩
      have xe2 : Ext μ1 H1 (zfu ⟨μ'.pub, μ1.priv⟩ M'.length a) H' := by
        refine ⟨⟨fun k b e => mc k b (x.mu k b e), xe.tups, fun b ws e n => ?_, xe.frzs⟩, rfl, xe.pk⟩
        obtain ⟨z1, z2⟩ := x0.lsts b ws e n
        obtain ⟨z3, z4⟩ := x.lsts b ws z1 z2
        exact ⟨z3, nc b z4⟩
      have mce : RelM fa K (zfu ⟨μ'.pub, μ1.priv⟩ M'.length a) H' (M' ++ [acc]) := by
        refine ⟨fun k ds e => ?_, fun k hk => ?_, fun j k b e1 e2 => ?_, fun b hb => ?_⟩
        · by_cases hk : k < M'.length
          · rw [List.getElem?_append_left hk] at e
            obtain ⟨b, ws, h1, h2, h3⟩ := hM.at' k ds e
            exact ⟨b, ws, mc k b h1, h2, h3.extW xc⟩
          · have hk' : k = M'.length := by
              have := (List.getElem?_eq_some_iff.mp e).1
              simp at this; omega
            subst hk'
            rw [List.getElem?_append_right (Nat.le_refl _)] at e
            simp at e
            subst e
            exact ⟨a, vs, ac, hH, hr.extW xc⟩
        · simp at hk
          show (if k = M'.length then some a else μ'.pub k) = none
          rw [if_neg (by omega)]
          exact hM.out k (by omega)
        · rcases pc j b e1 with ⟨j1, j2⟩ | ⟨j1, j2⟩ <;> rcases pc k b e2 with ⟨k1, k2⟩ | ⟨k1, k2⟩
          · omega
          · exact absurd (j2 ▸ k2) (nk k)
          · exact absurd (k2 ▸ j2) (nk j)
          · exact hM.inj j k b j2 k2
        · have hb : b ∈ μ1.priv := hb
          obtain ⟨z1, z2⟩ := hM.pv b (by rw [hp]; exact List.mem_cons_of_mem _ hb)
          refine ⟨z1, fun k e => ?_⟩
          rcases pc k b e with ⟨_, e⟩ | ⟨_, e⟩
          · exact na (e ▸ hb)
          · exact z2 k e
      exact q (.ref a) H' _ xe2 mce ⟨a, rfl, ac⟩
  · exact q.elim
end
section
variable {fa : Fa} {X : Cx}
def zb7 (m : Bool) (n : Nat) (t : Tgt) (gw : Env -> Mem -> Res Walk) (g : Env -> List D -> Mem -> Res (List D)) : Env -> Mem -> Res D := fun ρ M =>
  (gw ρ M).bind fun w M => (zfc (zfr t g (List.replicate n none ++ ρ)) w [] M).bind (zb1 m)
def zlz (X : Cx) (elt tg iter : PySem.Expr) (ifs : List PySem.Expr) (rest : List Comprehension) (scope : Scope) (pos : Pos) (body : Addr -> PySem.Env -> Sem Unit) : Prop :=
  ∀ (it a : Addr) (env : PySem.Env), compTurn (.ListComp elt (⟨tg, iter, ifs, 0⟩ :: rest) scope pos) 0 (.ref it) (.ref a) env = (standAt iter.pos >>= fun _ => pyNext (.ref it) >>= fun r => match r with
      | none => pure (.done .next)
      | some v => letOwnedTupleGo tg (.ref it) v >>= fun _ => assign tg env v >>= fun _ => body a env >>= fun _ => again (.compLoop (.ListComp elt (⟨tg, iter, ifs, 0⟩ :: rest) scope pos) 0 (.ref it) (.ref a) env))
structure Block (fa : Fa) (X : Cx) (own bn : List Str) (scope : Scope) (tg : PySem.Expr) (t : Tgt) (W : List Nat) (body : Addr -> PySem.Env -> Sem Unit) (g : Env -> List D -> Mem -> Res (List D)) : Prop where
  pg : ∀ cl C fp s H, PG (zcn X own bn scope cl C fp s H) tg (gT fa X.K t)
  db : ∀ cl C fp s H a, DB fa (zcn X own bn scope cl C fp s H) a W (body a (compEnvC scope cl C X.env)) g
theorem zt0 {n : Nat} {W : List Nat} {ρ : Env} (h : ∀ i ∈ W, i < n) : Clear W (List.replicate n none ++ ρ) := fun i hi d e => by
  rw [List.getElem?_append_left (by simpa using h i hi), List.getElem?_replicate] at e
  simp [h i hi] at e
theorem zu0 {K : PySem.W.Frag} {μ : Mu} {H : Hp} {σ : L2.St} {ρ : Env} (n : Nat) (h : zbr fa K μ H σ ρ) : zbr fa K μ H (List.replicate n none ++ σ) (List.replicate n none ++ ρ) := by
  refine ⟨by simp [h.len], fun i d e => ?_⟩
  by_cases hi : i < n
  · rw [List.getElem?_append_left (by simpa using hi), List.getElem?_replicate] at e
    simp [hi] at e
  · rw [List.getElem?_append_right (by simp; omega)] at e ⊢
    simp only [List.length_replicate] at e ⊢
    exact h.at' _ d e
theorem zlv {elt tg iter : PySem.Expr} {ifs : List PySem.Expr} {rest : List Comprehension} {scope : Scope} {pos p0 : Pos} {own bn : List Str} {t : Tgt} {W : List Nat} {body : Addr -> PySem.Env -> Sem Unit} {gw : Env -> Mem -> Res Walk} {g : Env -> List D -> Mem -> Res (List D)} {m : Bool}
    (S : zeo X own bn scope) (hcalm : X.calm = true) (hi : DI fa X tg iter gw) (B : Block fa X own bn scope tg t W body g) (hT : zlz X elt tg iter ifs rest scope pos body) (hW : ∀ i ∈ W, i ∉ slots t) (hn : ∀ i ∈ slots t ++ W, i < own.length)
    (hs : ∀ x, foldedSetIterable iter X.env x = pure x) {use : Option (Value -> Sem Unit)} {QQ : Value -> Shared -> Prop}
    {pins : List (Addr × Obj)} {s : Shared} {σ : L2.St} {H : Hp} {Q : VK} {μ : Mu} {ρ : Env} {M : Mem} (I : Inv X pins σ H s) (hE : zbr fa X.K μ H σ ρ) (hM : RelM fa X.K μ H M) (h : okE (zb7 m own.length t gw g ρ M) (zbs fa X.K μ H Q))
    (post : ∀ (a C : Addr) (s' : Shared) (H' : Hp), Inv X pins σ H' s' -> Q (.ref a) H' -> (∃ m, s'.heap.Ns C m) -> (∀ σ2 H2 s2, Inv X pins σ2 H2 s2 -> (H' C = none -> H2 C = none) -> H2 C = none /\ ∀ h'', Heap.SameBut C s2.heap h'' -> Inv X pins σ2 H2 { s2 with heap := h'' }) -> H' C = none -> (C ≠ X.env.locals /\ ∀ x c, X.env.cells.lookup x = some c -> c ≠ C) -> compPost (model X.prog X.w) X.A X.xe use QQ (.ref a) C (.ok .next) s') :
    wpAny (model X.prog X.w) X.A (comprehension (.ListComp elt (⟨tg, iter, ifs, 0⟩ :: rest) scope pos) scope X.env p0 (newList []) false (eval iter X.env) use) QQ X.xe s := by
  obtain ⟨w, M1, ew, q⟩ := zbd h
  obtain ⟨acc, M2, ea, q2⟩ := zbd q
  obtain ⟨cl, hcl, hsub, hhas⟩ := zrz (scope := scope) (env := X.env) fun y hy hf => I.ok.has y.1 (S.free y hy hf)
  have CL : Cl X scope cl := ⟨hsub, hhas⟩
  refine wpAny_comprehension_free (use := use) rfl hs hcl S.kind S.loc ?_
  refine thn (hi pins s σ H (fun J H1 => ∃ μ1, Ext μ H μ1 H1 /\ RelM fa X.K μ1 H1 M1 /\ zen fa X.K μ1 H1 w J) I ⟨μ, ρ, M, hE, hM, ?_⟩) fun v s1 h1 => thn h1 fun itv s2 h2 => ?_
  · rw [ew]; exact fun J H1 μ1 x1 m1 wk => ⟨μ1, x1, m1, wk⟩
  obtain ⟨it, fp, tn, J, H2, ei, I2, T, st2, f2, μ2, x2, m2, wk⟩ := h2
  subst ei
  refine wpAny_newObj_type ?_
  have ha : H2 s2.heap.objs.size = none := I2.hok.fresh (Nat.le_refl _)
  have I3 : Inv X pins σ (upd H2 s2.heap.objs.size (.lst [])) { s2 with heap := s2.heap.push { cls := .type "list", dict := none, data := .seq ([] : List Value).toArray } } :=
    I2.laid (t' := s2.toks) (fun b o e => Heap.get?_push_of_some _ e) (Nat.le_refl _) ⟨Nat.zero_le _, [], _, .nil, Heap.get?_push_size _ rfl⟩
  generalize hs3 : ({ s2 with heap := s2.heap.push { cls := .type "list", dict := none, data := .seq ([] : List Value).toArray } } : Shared) = s3 at I3 ⊢
  have k3 : ∀ b o, s2.heap.get? b = some o -> s3.heap.get? b = some o := fun b o e => by rw [<- hs3]; exact Heap.get?_push_of_some _ e
  have fo2 := T.obj _ _ st2
  have f3 : ∀ b ∈ fp, zfx X pins (upd H2 s2.heap.objs.size (.lst [])) b := fun b hb => by
    obtain ⟨o, e, _⟩ := fo2 b hb
    exact ⟨by rw [za6 (Nat.ne_of_lt (Heap.lt_size e))]; exact (f2 b hb).1, (f2 b hb).2⟩
  have fo3 : ∀ b ∈ fp, ∃ o, s3.heap.get? b = some o := fun b hb => let ⟨o, e, _⟩ := fo2 b hb; ⟨o, k3 b o e⟩
  refine wpAny_newFunctionEnv S.nocell (by intro y hy; simp at hy) (fun h₁ hns₁ hsb₁ => ?_) S.kind
  have k4 : ∀ b o, s3.heap.get? b = some o -> h₁.get? b = some o := fun b o e => hsb₁.extBut b o (Nat.ne_of_lt (Heap.lt_size e)) (Heap.get?_push_of_some _ e)
  have I4 := zvx (own := own) (bn := bn) (t' := s3.toks + ([] : List (Str × Value)).length) I3 S CL f3 fo3 hns₁ k4
  have ok4 := I4.ok
  have f4 : ∀ b ∈ fp, zfx (zcn X own bn scope cl s3.heap.objs.size fp s3 (upd H2 s2.heap.objs.size (.lst []))) [] (upd H2 s2.heap.objs.size (.lst [])) b := fun b hb =>
    ⟨(f3 b hb).1, (ok4.exf b hb).1, ok4.exfs b hb, .inl hb, (ok4.exf b hb).2, fun p hp => nomatch hp⟩
  have st4 : tn 0 h₁ := T.keep _ _ _ st2 fun b hb o e => k4 b o (k3 b o e)
  have x3 := zji m2 ha (.lst [])
  have go := zyu (X := zcn X own bn scope cl s3.heap.objs.size fp s3 (upd H2 s2.heap.objs.size (.lst []))) (fa := fa) (a := s2.heap.objs.size) (W := W) (t := t) (g := g) (acc := []) (vs := []) (Q := fun _ H' => Q (.ref s2.heap.objs.size) H') (hT it s2.heap.objs.size _) rfl hcalm T (B.pg _ _ _ _ _) (B.db _ _ _ _ _ _) hW I4 st4 f4
    (zu0 own.length ((hE.ext x2).extW x3)) (zsv m2 ha []) (zt0 hn) List.mem_cons_self zc8 rfl (zr9 wk x3) (by
      rw [ea]
      intro σ' H' μ' vs' z1 z2 z3 z4 z5
      exact zxo (m := m) m2 ha z1 z3 z4 z5 (okW q2 x2))
  have go' : codeAny (model X.prog X.w) X.A (.compLoop (.ListComp elt (⟨tg, iter, ifs, 0⟩ :: rest) scope pos) 0 (.ref it) (.ref s2.heap.objs.size) (compEnvC scope cl s3.heap.objs.size X.env)) (compPost (model X.prog X.w) X.A X.xe use QQ (.ref s2.heap.objs.size) s3.heap.objs.size) { s3 with heap := h₁, toks := s3.toks + ([] : List (Str × Value)).length } :=
    codeAny_mono go fun r s' ⟨er, σ', H', I', z⟩ => by
      subst er
      refine post _ _ s' H' (comp_back I3 f3 I') z (let ⟨m, hn, _⟩ := I'.loc; ⟨m, hn⟩) (fun σ2 H2 s2' I2' hf => ⟨hf I'.free, fun h'' hs'' => ztz I3 (hf I'.free) I2' hs''⟩) I'.free ⟨Nat.ne_of_gt I3.lt, fun x c e z => by
        obtain ⟨v, q⟩ := I3.cell x c e
        exact absurd q.lt (by rw [z]; exact Nat.lt_irrefl _)⟩
  exact codeAny_compStart_list go' (T.self _ 0 _ _ _ st4 go')
theorem ztv (m : Bool) {elt tg iter : PySem.Expr} {ifs : List PySem.Expr} {rest : List Comprehension} {scope : Scope} {pos : Pos} {own bn : List Str} {t : Tgt} {W : List Nat} {body : Addr -> PySem.Env -> Sem Unit} {gw : Env -> Mem -> Res Walk} {g : Env -> List D -> Mem -> Res (List D)}
    (S : zeo X own bn scope) (hcalm : X.calm = true) (hi : DI fa X tg iter gw) (B : Block fa X own bn scope tg t W body g) (hT : zlz X elt tg iter ifs rest scope pos body) (hW : ∀ i ∈ W, i ∉ slots t) (hn : ∀ i ∈ slots t ++ W, i < own.length)
    (hs : ∀ x, foldedSetIterable iter X.env x = pure x) : DE fa X (.ListComp elt (⟨tg, iter, ifs, 0⟩ :: rest) scope pos) (zb7 m own.length t gw g) := by
  intro pins s σ H Q I ⟨μ, ρ, M, hE, hM, h⟩
  rw [eval_ListComp]
  refine zlv (use := none) S hcalm hi B hT hW hn hs I hE hM h ?_
  intro a C s' H' I' q ⟨m, hn⟩ gone hf _
  exact ⟨m, hn, fun h' hs' => ⟨.ref a, H', (gone σ H' s' I' id).2 h' hs', rfl, q⟩⟩
theorem zry (m : Bool) {i : Nat} {y : Str} {py spos : Pos} {elt tg iter : PySem.Expr} {ifs : List PySem.Expr} {rest : List Comprehension} {scope : Scope} {pos : Pos} {own bn : List Str} {t : Tgt} {W : List Nat} {body : Addr -> PySem.Env -> Sem Unit} {gw : Env -> Mem -> Res Walk} {g : Env -> List D -> Mem -> Res (List D)}
    (S : zeo X own bn scope) (hcalm : X.calm = true) (hi : DI fa X tg iter gw) (B : Block fa X own bn scope tg t W body g) (hT : zlz X elt tg iter ifs rest scope pos body) (hW : ∀ i ∈ W, i ∉ slots t) (hn : ∀ i ∈ slots t ++ W, i < own.length)
    (hs : ∀ x, foldedSetIterable iter X.env x = pure x) (hN : X.N.Nodup) (hy : X.N[i]? = some y) (hl : X.env.scope.names.lookup y = some .local)
    (hsw : swapsWith (.ListComp elt (⟨tg, iter, ifs, 0⟩ :: rest) scope pos) (some (.Name y py)) spos.line X.env = pure true) :
    DS fa X (.Assign [.Name y py] (.ListComp elt (⟨tg, iter, ifs, 0⟩ :: rest) scope pos) spos) (fun ρ M => (zb7 m own.length t gw g ρ M).bind fun x M => (ofO M (zdt (.one i) x ρ)).bind fun ρ1 M => .ok (.next ρ1) M) := by
  intro pins s σ H D' I ⟨μ, ρ, M, hE, hM, h⟩
  obtain ⟨x, M1, ex, q⟩ := zbd h
  have q : ∀ σ' H' μ', Ext μ H μ' H' -> zbr fa X.K μ' H' σ' (ρ.set i (some x)) -> RelM fa X.K μ' H' M1 -> D'.nx σ' H' := q
  rw [exec_Assign_Name_used _ _ _ _ hsw]
  refine wpAny_bind (wpAny_standAt (wpAny_bind ?_))
  show wpAny _ X.A (do let _ <- comprehension (.ListComp elt (⟨tg, iter, ifs, 0⟩ :: rest) scope pos) scope X.env _ (newList []) false (eval iter X.env) (some (assign (.Name y py) X.env))) _ _ s
  refine wpAny_bind (thn (zlv (use := some (assign (.Name y py) X.env)) (QQ := fun _ s' => SP X pins D' .next s') (Q := fun v H' => D'.nx (σ.set i (some v)) H') S hcalm hi B hT hW hn hs I hE hM (by
    rw [ex]
    exact fun v H' μ' x1 m1 r1 => q _ H' μ' x1 ((hE.ext x1).set r1) m1) ?_) fun _ s' hq => wpAny_pure (wpAny_pure hq))
  intro a C s' H' I' q ⟨m, hn⟩ gone hf ⟨nL, nC⟩
  refine wpAny_assign_Name (zm1 I' hN hy (.inl hl) (v := .ref a) rfl (fun s2 I2 ⟨b, hb, hb2⟩ => ?_) (.inr hl))
  have nb : C ≠ b := by
    rcases hb2 with z | z
    · rw [z]; exact nL
    · exact Ne.symm (nC y b z)
  exact ⟨m, hn.sameBut hb nb, fun h' hs' => ⟨_, H', (gone _ H' s2 I2 id).2 h' hs', q⟩⟩
end
end LD
namespace LD
open PySem PySem.Spec PyProof.Rows L2
section
variable {X : Cx} {pins : List (Addr × Obj)} {σ : L2.St} {H : Hp} {s : Shared} {h' : Heap} {t' : Nat} {ch : List Addr}
theorem zqf (I : Inv X pins σ H s) (hf : ∀ b ∈ ch, zfx X pins H b) (k : ∀ b o, b ∉ ch -> s.heap.get? b = some o -> h'.get? b = some o) : Inv X pins σ H { s with heap := h', toks := t' } := by
  have nit : ∀ b u, H b = some u -> b ∉ ch := fun b u e z => by rw [(hf b z).1] at e; cases e
  refine I.step (g' := s.gens) (d' := s.drawn) (ch := ch) (fun b hb => ⟨(hf b hb).2.2.2.1, (hf b hb).2.1, (hf b hb).2.2.2.2.1, (hf b hb).2.2.2.2.2⟩) (fun b o _ _ hc e _ => k b o hc e) (fun b o _ _ hc e _ => ⟨o.slots, k b o hc e⟩) (fun _ _ _ _ n => n)
    (fun b o hc e => ⟨o, k b o hc e⟩) (fun _ _ e => e) (fun _ _ _ e => e) (fun b ps e => ⟨#[], by rw [e]; simp⟩) (fun m hm => ?_) (fun b u e => ?_) I.bare
  · obtain ⟨o, es, ep, ho, r⟩ := hm
    exact ⟨o, es, ep, k _ o (fun z => (hf _ z).2.1 rfl) ho, r⟩
  · refine (I.hok b u e).stay (fun c v hc q => k c v ?_ q) (fun _ q => q) fun _ _ q => q
    rcases hc with z | z
    · rw [z]; exact nit b u e
    · exact nit c _ z
theorem zmy {T : Addr} {o : HO} (I : Inv X pins σ H s) (hf : ∀ b ∈ ch, zfx X pins H b) (k : ∀ b o, b ∉ ch -> s.heap.get? b = some o -> h'.get? b = some o) (hT : s.heap.objs.size ≤ T) (new : zdg X.prog X.w (upd H T o) h' T o) :
    Inv X pins σ (upd H T o) { s with heap := h', toks := t' } := by
  have hn : H T = none := I.hok.fresh hT
  have nit : ∀ b u, H b = some u -> b ∉ ch := fun b u e z => by rw [(hf b z).1] at e; cases e
  refine I.step (g' := s.gens) (d' := s.drawn) (ch := ch) (fun b hb => ⟨(hf b hb).2.2.2.1, (hf b hb).2.1, (hf b hb).2.2.2.2.1, (hf b hb).2.2.2.2.2⟩) (fun b o _ _ hc e _ => k b o hc e) (fun b o _ _ hc e _ => ⟨o.slots, k b o hc e⟩)
    (fun b o _ e n => by rw [za6 (Nat.ne_of_lt (Nat.lt_of_lt_of_le (Heap.lt_size e) hT))]; exact n)
    (fun b o hc e => ⟨o, k b o hc e⟩) (fun b xs e => by rw [za6 (zbl e hn)]; exact e) (fun b ob u e => by rw [za6 (zbl e hn)]; exact e) (fun b ps e => ⟨#[], by rw [za6 (zbl e hn), e]; simp⟩) (fun m hm => ?_) (fun b u e => ?_) I.bare
  · obtain ⟨o, es, ep, ho, r⟩ := hm
    exact ⟨o, es, ep, k _ o (fun z => (hf _ z).2.1 rfl) ho, r⟩
  · by_cases hb : b = T
    · subst hb; rw [zc8] at e; cases e; exact new
    · rw [za6 hb] at e
      refine (I.hok b u e).stay (fun c v hc q => k c v ?_ q) (fun c q => by rw [za6 (zbl q hn)]; exact q) fun c xs q => by rw [za6 (zbl q hn)]; exact q
      rcases hc with z | z
      · rw [z]; exact nit b u e
      · exact nit c _ z
end
def Ite (K : PySem.W.Frag) (a : Addr) : It :=
  ⟨fun i H => ∃ xs x, SqL K H a xs /\ xs[i]? = some x, fun i H v H' => ∃ p x, H p = none /\ v = .ref p /\ H' = upd H p (.tup [.int i, x]) /\ ∀ xs, SqL K H a xs -> xs[i]? = some x, fun i H => ∃ xs, SqL K H a xs /\ xs.length ≤ i⟩
theorem zsg {P : Program} {w : World} {K : PySem.W.Frag} {elts : List PySem.Expr} {kk : Nat} {pos : Pos} (a it e : Addr) (hne : e ≠ it) :
    Turn P w K (.Tuple elts kk pos) (Ite K a) [e, it] e (fun i h => (∃ old, IsEnum h e it (i : Nat) old) /\ h.IsListIter it a i) where
  mem := by simp
  obj := fun i h ⟨⟨old, he⟩, o, ho, c, d⟩ b hb => by
    rcases List.mem_cons.mp hb with z | z
    · subst z; exact ⟨_, he, fun v z => by cases z⟩
    · have e : b = it := by simpa using z
      subst e
      exact ⟨o, ho, fun v z => by rw [d] at z; cases z⟩
  keep := fun i h h' ⟨⟨old, he⟩, st⟩ k => ⟨⟨old, k e (by simp) _ he⟩, st.at fun o e => k it (by simp) o e⟩
  item := by
    intro X hP hw hK hc i pins s σ H E I hf st hg
    subst hP hw hK
    obtain ⟨xs, x, hq, hx⟩ := hg
    obtain ⟨⟨old, he⟩, hit⟩ := st
    obtain ⟨its, rv, p, hz⟩ := I.list hq
    obtain ⟨u, hu, ru⟩ := rv.get hx
    refine wpAny_pyNext_enum_item he hit p.isList (x := u) (by simpa using hu) hne fun h1 ho hit1 hT hsz hk => ⟨_, rfl, ?_⟩
    have hT0 : H s.heap.objs.size = none := I.hok.fresh (Nat.le_refl _)
    have elt : e < s.heap.objs.size := Heap.lt_size he
    refine wpAny_letOwnedTupleGo_enum (s := { s with heap := h1, toks := s.toks + 1 }) ho fun h2 he2 hs2 => ?_
    have he2 : IsEnum h2 e it ((i + 1 : Nat) : Int) u := by simpa using he2
    have hT2 : h2.get? s.heap.objs.size = some { cls := .type "tuple", data := .seq #[.int i s.toks, u] } := (hs2.2 _ (Nat.ne_of_gt elt)).trans hT
    refine ⟨.ref s.heap.objs.size, upd H s.heap.objs.size (.tup [.int i, x]), zmy (s := s) (t' := s.toks + 1) I hf (fun b o hb q => (hs2.2 b (fun z => hb (by simp [z]))).trans (hk b o (fun z => hb (by simp [z])) (fun z => hb (by simp [z])) q)) (Nat.le_refl _) ⟨?_, [.int i s.toks, u], .cons ⟨_, rfl⟩ (.cons ru .nil), ⟨_, hT2, rfl, _, rfl⟩⟩, rfl,
      ⟨_, x, hT0, rfl, rfl, fun ys hy => by rw [I.list_inj hy hq]; exact hx⟩, ⟨⟨u, he2⟩, hit1.extBut hs2.extBut (Ne.symm hne)⟩, fun b hb => ?_⟩
    · show 2 ≤ sizeLine; decide
    · have : b < s.heap.objs.size := by
        rcases List.mem_cons.mp hb with z | z
        · subst z; exact elt
        · have e : b = it := by simpa using z
          subst e
          obtain ⟨o, e, _⟩ := hit; exact Heap.lt_size e
      rw [za6 (Nat.ne_of_lt this)]; exact (hf b hb).1
  done := by
    intro X hP hw hK hc i pins s σ H E I hf st hg
    subst hP hw hK
    obtain ⟨xs, hq, hx⟩ := hg
    obtain ⟨⟨old, he⟩, hit⟩ := st
    obtain ⟨its, rv, p, hz⟩ := I.list hq
    have hl := rv.length
    exact wpAny_pyNext_enum_end (I.ok.hd hc) he hit p.isList (by simp; omega) fun h' eb => ⟨rfl, zqf I hf (t' := s.toks) fun b o hb q => eb b o (fun z => hb (by simp [z])) q⟩
  self := fun _ _ _ _ _ ⟨⟨old, he⟩, _⟩ h => wpAny_pyIter_enum he h
section
variable {fa : Fa} {X : Cx} {a : PySem.Expr} {ga : Env -> Mem -> Res D} {pos p : Pos}
theorem zjk : ∀ (ds : List D) (k i : Nat), (ze1 k ds)[i]? = (ds[i]?).map fun d => .tup [.int ((k + i : Nat) : Int), d]
  | [], _, _ => by simp [ze1]
  | d :: ds, k, 0 => by simp [ze1]
  | d :: ds, k, i + 1 => by
    have := zjk ds (k + 1) i
    simp only [ze1, List.getElem?_cons_succ, this]
    congr 1
    funext d
    congr 3
    omega
theorem zjj : ∀ (ds : List D) (k : Nat), (ze1 k ds).length = ds.length
  | [], _ => rfl
  | d :: ds, k => by simp [ze1, zjj ds]
theorem zsb {μ0 : Mu} {H0 : Hp} {dd : D} {ad : Addr} (h : Rep fa X.K μ0 H0 dd (.ref ad)) : zen fa X.K μ0 H0 (fun M => (rdD M dd).map (ze1 0)) (Ite X.K ad) := fun μ H M ds x hM e => by
  dsimp only at e
  cases e0 : rdD M dd with
  | none => rw [e0] at e; cases e
  | some es =>
    rw [e0] at e
    have e : ze1 0 es = ds := Option.some.inj e
    subst e
    obtain ⟨ad', vs, ea, s, r⟩ := zcd hM (Rep.extW x h) e0
    cases ea
    refine ⟨fun i d hd => ?_, fun i hi => ⟨vs, s, by rw [r.length, <- zjj es 0]; exact hi⟩⟩
    rw [zjk] at hd
    cases e1 : es[i]? with
    | none => rw [e1] at hd; cases hd
    | some d0 =>
      rw [e1] at hd
      have hd : D.tup [.int ((0 + i : Nat) : Int), d0] = d := Option.some.inj hd
      subst hd
      obtain ⟨v, hv, rv⟩ := r.get e1
      refine ⟨⟨vs, v, s, hv⟩, fun y H' ⟨q, z, hq, ey, eH, hy⟩ => ?_⟩
      have := hy vs s
      rw [hv] at this; cases this
      subst eH ey
      refine ⟨Ext.alloc hM hq, hM.alloc hq, q, [.int i, v], rfl, .inl (.inl zc8), .int i, [v], rfl, ?_, v, [], rfl, rv.ext (Ext.alloc hM hq), rfl⟩
      show V.int i = V.int ((0 + i : Nat) : Int)
      rw [Nat.zero_add]
def zg7 (ga : Env -> Mem -> Res D) : Env -> Mem -> Res Walk := fun ρ M => (ga ρ M).bind fun x M => match x with
  | .lst ds => .ok (fun _ => some (ze1 0 ds)) M
  | .frz ds => .ok (fun _ => some (ze1 0 ds)) M
  | .cell k => .ok (fun M => (M[k]?).map (ze1 0)) M
  | _ => .bad
theorem zym {elts : List PySem.Expr} {kk : Nat} {tp : Pos} (ha : DE fa X a ga) (hg : Gl X "enumerate") (hm : X.mg "enumerate" = none) (hs : starEach [a] X.env = [(false, eval a X.env)]) : DI fa X (.Tuple elts kk tp) (.Call (.Name "enumerate" p) [a] [] pos) (zg7 ga) := by
  intro pins s σ H R I ⟨μ, ρ, M, hE, hM, h⟩
  obtain ⟨x, M1, e, q⟩ := zbd h
  have key : (∀ μ' H', RelM fa X.K μ' H' M1 -> ∀ v, Rep fa X.K μ' H' x v -> ∃ ds, rdD M1 x = some ds) -> (∀ J H' μ', Ext μ H μ' H' -> RelM fa X.K μ' H' M1 -> zen fa X.K μ' H' (fun M => (rdD M x).map (ze1 0)) J -> R J H') ->
      wpAny (model X.prog X.w) X.A (eval (.Call (.Name "enumerate" p) [a] [] pos) X.env) (fun v s1 => wpAny (model X.prog X.w) X.A (pyIter v) (PIE X pins σ (.Tuple elts kk tp) R) X.xe s1) X.xe s := fun hx q => by
    refine Call_ (zgy I hg hm boot_enumerate (PyProof.Rows.callWith_type1 (thn (zft ha zho hs pos pins s σ H (fun vs H1 => ∃ v μ1, vs = [v] /\ Ext μ H μ1 H1 /\ RelM fa X.K μ1 H1 M1 /\ Rep fa X.K μ1 H1 x v) I ⟨μ, ρ, M, hE, hM, ?_⟩) fun us s1 ⟨vs, H1, I1, r1, v, μ1, ev, x1, m1, rv⟩ => ?_) hs rfl))
    · rw [e]; exact fun v H1 μ1 x1 m1 r1 => ⟨v, μ1, rfl, x1, m1, r1⟩
    subst ev
    obtain ⟨ds, er⟩ := hx μ1 H1 m1 v rv
    obtain ⟨ad, vs, rfl, s1', r⟩ := zcd m1 rv er
    cases r1 with
    | cons r1 rr =>
      cases rr
      obtain rfl := r1
      obtain ⟨its, rvs, pl, hz⟩ := I1.list s1'
      refine call_enumerate_list pl.isList fun h1 he hit hsz hk => ?_
      have I2 : Inv X pins σ H1 { s1 with heap := h1 } := I1.kept (t' := s1.toks) hk
      refine wpAny_pyIter_enum (s := { s1 with heap := h1 }) he ?_
      refine ⟨s1.heap.objs.size + 1, [s1.heap.objs.size + 1, s1.heap.objs.size], _, _, H1, rfl, I2, zsg ad s1.heap.objs.size (s1.heap.objs.size + 1) (Nat.succ_ne_self _), ⟨⟨.none, he⟩, hit⟩, fun b hb => ?_, q _ H1 μ1 x1 m1 (zsb rv)⟩
      have hb : s1.heap.objs.size ≤ b := by
        rcases List.mem_cons.mp hb with z | z
        · subst z; exact Nat.le_succ _
        · have e : b = s1.heap.objs.size := by simpa using z
          subst e; exact Nat.le_refl _
      exact I1.fpOk hb (I1.hok.fresh hb)
  cases x with
  | lst ds => exact key (fun _ _ _ _ _ => ⟨ds, rfl⟩) q
  | frz ds => exact key (fun _ _ _ _ _ => ⟨ds, rfl⟩) q
  | cell k => exact key (fun μ' H' m' v ⟨ad, _, hk⟩ => let ⟨ds, _, e, _⟩ := m'.mu_lt hk; ⟨ds, e⟩) q
  | _ => exact q.elim
end
end LD
namespace LD
open PySem PySem.Spec PyProof.Rows L2
def zb8 : Bool -> Heap -> Addr -> Array Value -> Prop
  | true, h, a, its => h.IsList a its
  | false, h, a, its => h.IsTuple a its
def zco : Bool -> Heap -> Addr -> Addr -> Nat -> Prop
  | true, h, it, a, i => h.IsListIter it a i
  | false, h, it, a, i => h.IsTupleIter it a i
theorem zb8.extBut {b : Bool} {h h' : Heap} {a c : Addr} {its : Array Value} (x : zb8 b h a its) (hs : Heap.ExtBut c h h') (n : a ≠ c) : zb8 b h' a its := by
  cases b <;> (obtain ⟨o, ho, r⟩ := x; exact ⟨o, hs a o n ho, r⟩)
theorem zco.extBut {b : Bool} {h h' : Heap} {it a c : Addr} {i : Nat} (x : zco b h it a i) (hs : Heap.ExtBut c h h') (n : it ≠ c) : zco b h' it a i := by
  cases b <;> (obtain ⟨o, ho, r⟩ := x; exact ⟨o, hs it o n ho, r⟩)
theorem zco.at {b : Bool} {h h' : Heap} {it a : Addr} {i : Nat} (x : zco b h it a i) (k : ∀ o, h.get? it = some o -> h'.get? it = some o) : zco b h' it a i := by
  cases b <;> (obtain ⟨o, ho, r⟩ := x; exact ⟨o, k o ho, r⟩)
theorem zco.obj {b : Bool} {h : Heap} {it a : Addr} {i : Nat} (x : zco b h it a i) : ∃ o, h.get? it = some o /\ ∀ v, o.data ≠ .cell v := by
  cases b <;> (obtain ⟨o, ho, c, d⟩ := x; exact ⟨o, ho, fun v z => by rw [d] at z; cases z⟩)
section
variable {prog : Program} {w : World} {A : Around} {E : Value -> Shared -> Prop} {s : Shared}
theorem zb5 {a b : Nat} (h : a ≠ b) : @Ne Addr a b := h
theorem zoc {T : Addr} {its : Array Value} {k : Nat} {x : Value} {Q : Unit -> Shared -> Prop} (hT : s.heap.get? T = some { cls := .type "tuple", data := .seq its }) (hz : its.size ≤ 64)
    (h : ∀ h', h'.get? T = some { cls := .type "tuple", data := .seq (its.setIfInBounds k x) } -> Heap.SameBut T s.heap h' -> Q () { s with heap := h' }) :
    wpAny (model prog w) A (updateSeq T (·.setIfInBounds k x)) Q E s := by
  refine wpAny_updateSeq hT rfl (h _ ?_ (Heap.SameBut.update ..)) (Nat.le_trans hz (by decide)) (by rw [Array.size_setIfInBounds]; exact Nat.le_trans hz (by decide))
  rw [Heap.get?_update_self _ hT rfl]
  simp [Obj.mapSeq]
theorem zh3 {b : Bool} {it a : Addr} {i : Nat} {its : Array Value} {x : Value} {Q : Value -> Shared -> Prop} (hit : zco b s.heap it a i) (hl : zb8 b s.heap a its) (hx : its[i]? = some x)
    (hQ : ∀ h', zco b h' it a (i + 1) -> Heap.SameBut it s.heap h' -> Q x { s with heap := h' }) : wpAny (model prog w) A (Builtin.SmallTypes.nextOf (.ref it)) Q E s := by
  cases b with
  | true => exact wpAny_nextOf_list_item hit hl hx hQ
  | false =>
    have hit : s.heap.IsTupleIter it a i := hit
    obtain ⟨o, ho, hc, hd⟩ := id hit
    obtain ⟨ol, hol, _, nl, hdl⟩ := hl
    unfold Builtin.SmallTypes.nextOf
    refine wpAny_bind (wpAny_callSpecial?_slot (name := Str.ofString "__next__") hit.typeIs F.slot_tuple_iterator_next
      (wpAny_call_entry F.slot_tuple_iterator_next hit.typeIs F.entry_tuple_iterator_next ?_ (F.args_tuple_iterator_next_1 _)))
    show wpAny _ _ (field (.ref it) 0 >>= _) _ _ s
    refine wpAny_bind (wpAny_field ho hd (x := .ref a) rfl ?_)
    show wpAny _ _ (if (Value.ref a == Value.none) = true then _ else _) _ _ s
    rw [if_neg (show ¬ ((Value.ref a == Value.none) = true) from Bool.false_ne_true)]
    show wpAny _ _ (field (.ref it) 1 >>= _) _ _ s
    refine wpAny_bind (wpAny_field ho hd (x := .int i 0) rfl ?_)
    show wpAny _ _ (seqItems? (.ref a) >>= _) _ _ s
    refine wpAny_bind (wpAny_seqItems hol hdl ?_)
    simp only [Int.toNat_natCast, hx]
    refine wpAny_bind (wpAny_setField ho hd (by simp) (wpAny_pure ⟨x, rfl, wpAny_pure (hQ _ ?_ (Heap.SameBut.update ..))⟩))
    exact ⟨_, Heap.get?_update_self _ ho (Obj.isFreed_of_fields (Obj.data_mapFields hd _)), (Obj.cls_mapFields ..).trans hc, by
      rw [Obj.data_mapFields hd]; simp [rawInt]⟩
theorem zli {b : Bool} {it a : Addr} {i : Nat} {its : Array Value} {Q : Value -> Shared -> Prop} (hh : A.handled = none) (hit : zco b s.heap it a i) (hl : zb8 b s.heap a its) (hx : its[i]? = none)
    (hE : ∀ h' e, Heap.ExtBut it s.heap h' -> (∃ o, h'.get? e = some o /\ o.cls = .type "StopIteration") -> E (.ref e) { s with heap := h' }) : wpAny (model prog w) A (Builtin.SmallTypes.nextOf (.ref it)) Q E s := by
  cases b with
  | true => exact wpAny_nextOf_list_end hh hit hl hx hE
  | false =>
    have hit : s.heap.IsTupleIter it a i := hit
    obtain ⟨o, ho, hc, hd⟩ := id hit
    obtain ⟨ol, hol, _, nl, hdl⟩ := hl
    unfold Builtin.SmallTypes.nextOf
    refine wpAny_bind (wpAny_callSpecial?_slot (name := Str.ofString "__next__") hit.typeIs F.slot_tuple_iterator_next
      (wpAny_call_entry F.slot_tuple_iterator_next hit.typeIs F.entry_tuple_iterator_next ?_ (F.args_tuple_iterator_next_1 _)))
    show wpAny _ _ (field (.ref it) 0 >>= _) _ _ s
    refine wpAny_bind (wpAny_field ho hd (x := .ref a) rfl ?_)
    show wpAny _ _ (if (Value.ref a == Value.none) = true then _ else _) _ _ s
    rw [if_neg (show ¬ ((Value.ref a == Value.none) = true) from Bool.false_ne_true)]
    show wpAny _ _ (field (.ref it) 1 >>= _) _ _ s
    refine wpAny_bind (wpAny_field ho hd (x := .int i 0) rfl ?_)
    show wpAny _ _ (seqItems? (.ref a) >>= _) _ _ s
    refine wpAny_bind (wpAny_seqItems hol hdl ?_)
    simp only [Int.toNat_natCast, hx]
    refine wpAny_bind (wpAny_rule (wpAny_bind (wpAny_setField ho hd (by simp) ?_)))
    show wpAny _ _ (newExc (.type "StopIteration") [] >>= _) _ _ _
    refine wpAny_bind ?_
    simp only [newExc, newTuple]
    refine wpAny_bind (wpAny_newObj_type ?_ (by size_fits))
    refine wpAny_bind (m := firstArgMember _ _) (wpAny_of_eq (a := Value.none) (by first | rfl | (simp only [firstArgMember]; rfl)) ?_)
    refine wpAny_newObj_type ?_ (by size_fits)
    simp only [raiseNew]
    refine wpAny_bind (wpAny_handled ?_)
    first | rw [show A.in1.handled = none from hh] | rw [hh]
    refine wpAny_bind (wpAny_pure (wpAny_throw ?_))
    exact hE _ _ (((Heap.SameBut.update ..).extBut.push _).push _) ⟨_, Heap.get?_push_size _ rfl, rfl⟩
theorem zr3 {n i : Nat} {a0 a1 : Nat} {b0 b1 : Bool} {xs0 xs1 : Array Value} {x0 x1 u0 u1 : Value} {Q : Value -> Shared -> Prop} (hn : a0 < n /\ a1 < n)
    (hz : IsZip s.heap (n + 4) (n + 2) (n + 3) .none) (hTI : s.heap.get? (n + 2) = some { cls := .type "tuple", data := .seq #[.ref n, .ref (n + 1)] }) (hTO : s.heap.get? (n + 3) = some { cls := .type "tuple", data := .seq #[u0, u1] })
    (i0 : zco b0 s.heap n a0 i) (i1 : zco b1 s.heap (n + 1) a1 i) (q0 : zb8 b0 s.heap a0 xs0) (q1 : zb8 b1 s.heap a1 xs1)
    (e0 : xs0[i]? = some x0) (e1 : xs1[i]? = some x1)
    (hQ : ∀ h', IsZip h' (n + 4) (n + 2) (n + 3) (rawInt s.heap.objs.size) -> h'.get? (n + 3) = some { cls := .type "tuple", data := .seq #[x0, x1] } -> zco b0 h' n a0 (i + 1) -> zco b1 h' (n + 1) a1 (i + 1) -> h'.get? s.heap.objs.size = some { cls := .type "tuple", data := .seq #[x0, x1] } -> h'.objs.size = s.heap.objs.size + 1 ->
      (∀ c o, c ∉ [n, (n + 1), (n + 3), (n + 4)] -> s.heap.get? c = some o -> h'.get? c = some o) -> Q (.ref s.heap.objs.size) { s with heap := h' }) :
    wpAny (model prog w) A (Builtin.«zip.__next__» ⟨[.ref (n + 4)], []⟩) (fun fin s' => ∃ v, fin = .done (.ret v) /\ Q v s') E s := by
  obtain ⟨l0, l1⟩ := hn
  show wpAny _ _ (field (.ref (n + 4)) 2 >>= _) _ _ _
  refine wpAny_bind (wpAny_field hz rfl (x := .bool false) rfl ?_)
  show wpAny _ _ (field (.ref (n + 4)) 3 >>= _) _ _ _
  refine wpAny_bind (wpAny_field hz rfl (x := .ref (n + 2)) rfl ?_)
  refine wpAny_bind (wpAny_seqItems hTI rfl ?_)
  show wpAny _ _ (Builtin.SmallTypes.ownedTupleIsFree (.ref (n + 4)) >>= _) _ _ _
  refine wpAny_bind ?_
  unfold Builtin.SmallTypes.ownedTupleIsFree
  refine wpAny_bind (wpAny_field hz rfl (x := .none) rfl (wpAny_pure ?_))
  simp only [if_true]
  refine wpAny_bind (wpAny_rule ?_)
  refine wpAny_bind (wpAny_field hz rfl (x := .ref (n + 3)) rfl ?_)
  refine wpAny_bind (wpAny_setField_rec hz (by simp) fun h0 hz0 hs0 => ?_)
  replace hz0 : IsZip h0 (n + 4) (n + 2) (n + 3) .ellipsis := hz0
  have k0 : ∀ c o, c ∉ [n, (n + 1), (n + 3), (n + 4)] -> s.heap.get? c = some o -> h0.get? c = some o := fun c o hc e => hs0.extBut _ _ (fun z => hc (by rw [z]; simp)) e
  have hTO0 : h0.get? (n + 3) = some { cls := .type "tuple", data := .seq #[u0, u1] } := hs0.extBut _ _ (zb5 (by omega)) hTO
  have hsz0 : h0.objs.size = s.heap.objs.size := hs0.1
  refine wpAny_bind ?_
  simp only [List.zipIdx_cons, List.zipIdx_nil, List.forIn_cons, List.forIn_nil]
  have j0_0 : zco b0 h0 n a0 i := i0.extBut hs0.extBut (zb5 (by omega))
  have p0_0 : zb8 b0 h0 a0 xs0 := q0.extBut hs0.extBut (zb5 (by omega))
  have j1_0 : zco b1 h0 (n + 1) a1 i := i1.extBut hs0.extBut (zb5 (by omega))
  have p1_0 : zb8 b1 h0 a1 xs1 := q1.extBut hs0.extBut (zb5 (by omega))
  refine wpAny_bind (wpAny_bind (wpAny_onRaise ?_))
  show wpAny _ _ (Builtin.SmallTypes.nextOf (.ref n) >>= _) _ _ _
  refine wpAny_bind (zh3 j0_0 p0_0 e0 fun h1 j0_1 hs1 => wpAny_pure ?_)
  have hTO1 : h1.get? (n + 3) = some { cls := .type "tuple", data := .seq #[u0, u1] } := hs1.extBut _ _ (zb5 (by omega)) hTO0
  refine wpAny_bind (wpAny_seqItems hTO1 rfl ?_)
  refine wpAny_bind (zoc hTO1 (by simp) fun h2 hTO2 hs2 => ?_)
  replace hTO2 : h2.get? (n + 3) = some { cls := .type "tuple", data := .seq #[x0, u1] } := hTO2
  have hz2 : IsZip h2 (n + 4) (n + 2) (n + 3) .ellipsis := hs2.extBut _ _ (zb5 (by omega)) (hs1.extBut _ _ (zb5 (by omega)) hz0)
  have k2 : ∀ c o, c ∉ [n, (n + 1), (n + 3), (n + 4)] -> s.heap.get? c = some o -> h2.get? c = some o := fun c o hc e => hs2.extBut _ _ (fun z => hc (by rw [z]; simp)) (hs1.extBut _ _ (fun z => hc (by rw [z]; simp)) (k0 c o hc e))
  have hsz2 : h2.objs.size = s.heap.objs.size := by rw [hs2.1, hs1.1, hsz0]
  have j0_2 : zco b0 h2 n a0 (i + 1) := j0_1.extBut hs2.extBut (zb5 (by omega))
  have p0_2 : zb8 b0 h2 a0 xs0 := (p0_0.extBut hs1.extBut (zb5 (by omega))).extBut hs2.extBut (zb5 (by omega))
  have j1_2 : zco b1 h2 (n + 1) a1 i := (j1_0.extBut hs1.extBut (zb5 (by omega))).extBut hs2.extBut (zb5 (by omega))
  have p1_2 : zb8 b1 h2 a1 xs1 := (p1_0.extBut hs1.extBut (zb5 (by omega))).extBut hs2.extBut (zb5 (by omega))
  refine wpAny_bind (wpAny_letGo (wpAny_pure ?_))
  refine wpAny_bind (wpAny_bind (wpAny_onRaise ?_))
  show wpAny _ _ (Builtin.SmallTypes.nextOf (.ref (n + 1)) >>= _) _ _ _
  refine wpAny_bind (zh3 j1_2 p1_2 e1 fun h3 j1_3 hs3 => wpAny_pure ?_)
  have hTO3 : h3.get? (n + 3) = some { cls := .type "tuple", data := .seq #[x0, u1] } := hs3.extBut _ _ (zb5 (by omega)) hTO2
  refine wpAny_bind (wpAny_seqItems hTO3 rfl ?_)
  refine wpAny_bind (zoc hTO3 (by simp) fun h4 hTO4 hs4 => ?_)
  replace hTO4 : h4.get? (n + 3) = some { cls := .type "tuple", data := .seq #[x0, x1] } := hTO4
  have hz4 : IsZip h4 (n + 4) (n + 2) (n + 3) .ellipsis := hs4.extBut _ _ (zb5 (by omega)) (hs3.extBut _ _ (zb5 (by omega)) hz2)
  have k4 : ∀ c o, c ∉ [n, (n + 1), (n + 3), (n + 4)] -> s.heap.get? c = some o -> h4.get? c = some o := fun c o hc e => hs4.extBut _ _ (fun z => hc (by rw [z]; simp)) (hs3.extBut _ _ (fun z => hc (by rw [z]; simp)) (k2 c o hc e))
  have hsz4 : h4.objs.size = s.heap.objs.size := by rw [hs4.1, hs3.1, hsz2]
  have j0_4 : zco b0 h4 n a0 (i + 1) := (j0_2.extBut hs3.extBut (zb5 (by omega))).extBut hs4.extBut (zb5 (by omega))
  have p0_4 : zb8 b0 h4 a0 xs0 := (p0_2.extBut hs3.extBut (zb5 (by omega))).extBut hs4.extBut (zb5 (by omega))
  have j1_4 : zco b1 h4 (n + 1) a1 (i + 1) := j1_3.extBut hs4.extBut (zb5 (by omega))
  have p1_4 : zb8 b1 h4 a1 xs1 := (p1_2.extBut hs3.extBut (zb5 (by omega))).extBut hs4.extBut (zb5 (by omega))
  refine wpAny_bind (wpAny_letGo (wpAny_pure (wpAny_pure ?_)))
  refine wpAny_bind (wpAny_seqItems hTO4 rfl ?_)
  refine wpAny_bind (wpAny_newTuple ?_)
  have hzlt : (n + 4) < h4.objs.size := Heap.lt_size hz4
  show wpAny _ _ (Builtin.SmallTypes.ownedTupleHandOut (.ref (n + 4)) (.ref h4.objs.size) >>= _) _ _ _
  refine wpAny_bind ?_
  unfold Builtin.SmallTypes.ownedTupleHandOut
  have hz6 : IsZip (h4.push { cls := .type "tuple", data := .seq #[x0, x1] }) (n + 4) (n + 2) (n + 3) .ellipsis := Heap.get?_push_of_some _ hz4
  refine wpAny_bind (wpAny_setField_rec hz6 (by simp) fun h7 hz7 hs7 => ?_)
  replace hz7 : IsZip h7 (n + 4) (n + 2) (n + 3) (rawInt h4.objs.size) := hz7
  refine wpAny_setField_rec hz7 (by simp) fun h8 hz8 hs8 => ?_
  replace hz8 : IsZip h8 (n + 4) (n + 2) (n + 3) (rawInt h4.objs.size) := hz8
  have up : ∀ c o, c ≠ (n + 4) -> h4.get? c = some o -> h8.get? c = some o := fun c o c1 e => hs8.extBut _ _ c1 (hs7.extBut _ _ c1 (Heap.get?_push_of_some _ e))
  have hT8 : h8.get? h4.objs.size = some { cls := .type "tuple", data := .seq #[x0, x1] } := hs8.extBut _ _ (Nat.ne_of_gt hzlt) (hs7.extBut _ _ (Nat.ne_of_gt hzlt) (Heap.get?_push_size _ rfl))
  have hzz : h8.objs.size = h4.objs.size + 1 := by rw [hs8.1, hs7.1, Heap.size_push]
  rw [hsz4] at hz8 hT8 hzz
  refine wpAny_pure ⟨_, rfl, ?_⟩
  show Q (.ref h4.objs.size) _
  rw [hsz4]
  exact hQ h8 hz8 (up _ _ (zb5 (by omega)) hTO4) (j0_4.at fun o e => up _ o (zb5 (by omega)) e) (j1_4.at fun o e => up _ o (zb5 (by omega)) e) hT8 hzz fun c o hc e => up c o (fun z => hc (by rw [z]; simp)) (k4 c o hc e)
theorem zt8 {n i : Nat} {a0 a1 : Nat} {b0 b1 : Bool} {xs0 xs1 : Array Value} {u0 u1 : Value} {Q : Fin -> Shared -> Prop} (hh : A.handled = none) (hn : a0 < n /\ a1 < n)
    (hz : IsZip s.heap (n + 4) (n + 2) (n + 3) .none) (hTI : s.heap.get? (n + 2) = some { cls := .type "tuple", data := .seq #[.ref n, .ref (n + 1)] }) (hTO : s.heap.get? (n + 3) = some { cls := .type "tuple", data := .seq #[u0, u1] })
    (i0 : zco b0 s.heap n a0 i) (i1 : zco b1 s.heap (n + 1) a1 i) (q0 : zb8 b0 s.heap a0 xs0) (q1 : zb8 b1 s.heap a1 xs1)
    (hend : xs0[i]? = none \/ xs1[i]? = none)
    (hE : ∀ h' e, (∀ c o, c ∉ [n, (n + 1), (n + 3), (n + 4)] -> s.heap.get? c = some o -> h'.get? c = some o) -> (∃ o, h'.get? e = some o /\ o.cls = .type "StopIteration") -> E (.ref e) { s with heap := h' }) :
    wpAny (model prog w) A (Builtin.«zip.__next__» ⟨[.ref (n + 4)], []⟩) Q E s := by
  obtain ⟨l0, l1⟩ := hn
  show wpAny _ _ (field (.ref (n + 4)) 2 >>= _) _ _ _
  refine wpAny_bind (wpAny_field hz rfl (x := .bool false) rfl ?_)
  show wpAny _ _ (field (.ref (n + 4)) 3 >>= _) _ _ _
  refine wpAny_bind (wpAny_field hz rfl (x := .ref (n + 2)) rfl ?_)
  refine wpAny_bind (wpAny_seqItems hTI rfl ?_)
  show wpAny _ _ (Builtin.SmallTypes.ownedTupleIsFree (.ref (n + 4)) >>= _) _ _ _
  refine wpAny_bind ?_
  unfold Builtin.SmallTypes.ownedTupleIsFree
  refine wpAny_bind (wpAny_field hz rfl (x := .none) rfl (wpAny_pure ?_))
  simp only [if_true]
  refine wpAny_bind (wpAny_rule ?_)
  refine wpAny_bind (wpAny_field hz rfl (x := .ref (n + 3)) rfl ?_)
  refine wpAny_bind (wpAny_setField_rec hz (by simp) fun h0 hz0 hs0 => ?_)
  replace hz0 : IsZip h0 (n + 4) (n + 2) (n + 3) .ellipsis := hz0
  have k0 : ∀ c o, c ∉ [n, (n + 1), (n + 3), (n + 4)] -> s.heap.get? c = some o -> h0.get? c = some o := fun c o hc e => hs0.extBut _ _ (fun z => hc (by rw [z]; simp)) e
  have hTO0 : h0.get? (n + 3) = some { cls := .type "tuple", data := .seq #[u0, u1] } := hs0.extBut _ _ (zb5 (by omega)) hTO
  refine wpAny_bind ?_
  simp only [List.zipIdx_cons, List.zipIdx_nil, List.forIn_cons, List.forIn_nil]
  have j0_0 : zco b0 h0 n a0 i := i0.extBut hs0.extBut (zb5 (by omega))
  have p0_0 : zb8 b0 h0 a0 xs0 := q0.extBut hs0.extBut (zb5 (by omega))
  have j1_0 : zco b1 h0 (n + 1) a1 i := i1.extBut hs0.extBut (zb5 (by omega))
  have p1_0 : zb8 b1 h0 a1 xs1 := q1.extBut hs0.extBut (zb5 (by omega))
  refine wpAny_bind (wpAny_bind (wpAny_onRaise ?_))
  show wpAny _ _ (Builtin.SmallTypes.nextOf (.ref n) >>= _) _ _ _
  cases e0 : xs0[i]? with
  | none =>
    refine wpAny_bind (zli hh j0_0 p0_0 e0 fun h1 e hs1 he => ?_)
    obtain ⟨oe, hoe, hce⟩ := he
    have hz1 : IsZip h1 (n + 4) (n + 2) (n + 3) .ellipsis := hs1 _ _ (zb5 (by omega)) hz0
    have hez : e ≠ (n + 4) := fun x => by subst x; rw [hz1] at hoe; cases hoe; simp at hce
    exact wpAny_setField_rec hz1 (by simp) fun h2 _ hs2 => hE h2 e (fun c o hc x => hs2.extBut _ _ (fun z => hc (by rw [z]; simp)) (hs1 _ _ (fun z => hc (by rw [z]; simp)) (k0 c o hc x))) ⟨oe, hs2.extBut _ _ hez hoe, hce⟩
  | some x0 =>
    refine wpAny_bind (zh3 j0_0 p0_0 e0 fun h1 j0_1 hs1 => wpAny_pure ?_)
    have hTO1 : h1.get? (n + 3) = some { cls := .type "tuple", data := .seq #[u0, u1] } := hs1.extBut _ _ (zb5 (by omega)) hTO0
    refine wpAny_bind (wpAny_seqItems hTO1 rfl ?_)
    refine wpAny_bind (zoc hTO1 (by simp) fun h2 hTO2 hs2 => ?_)
    replace hTO2 : h2.get? (n + 3) = some { cls := .type "tuple", data := .seq #[x0, u1] } := hTO2
    have hz2 : IsZip h2 (n + 4) (n + 2) (n + 3) .ellipsis := hs2.extBut _ _ (zb5 (by omega)) (hs1.extBut _ _ (zb5 (by omega)) hz0)
    have k2 : ∀ c o, c ∉ [n, (n + 1), (n + 3), (n + 4)] -> s.heap.get? c = some o -> h2.get? c = some o := fun c o hc e => hs2.extBut _ _ (fun z => hc (by rw [z]; simp)) (hs1.extBut _ _ (fun z => hc (by rw [z]; simp)) (k0 c o hc e))
    have j1_2 : zco b1 h2 (n + 1) a1 i := (j1_0.extBut hs1.extBut (zb5 (by omega))).extBut hs2.extBut (zb5 (by omega))
    have p1_2 : zb8 b1 h2 a1 xs1 := (p1_0.extBut hs1.extBut (zb5 (by omega))).extBut hs2.extBut (zb5 (by omega))
    refine wpAny_bind (wpAny_letGo (wpAny_pure ?_))
    refine wpAny_bind (wpAny_bind (wpAny_onRaise ?_))
    show wpAny _ _ (Builtin.SmallTypes.nextOf (.ref (n + 1)) >>= _) _ _ _
    cases e1 : xs1[i]? with
    | none =>
      refine wpAny_bind (zli hh j1_2 p1_2 e1 fun h3 e hs3 he => ?_)
      obtain ⟨oe, hoe, hce⟩ := he
      have hz3 : IsZip h3 (n + 4) (n + 2) (n + 3) .ellipsis := hs3 _ _ (zb5 (by omega)) hz2
      have hez : e ≠ (n + 4) := fun x => by subst x; rw [hz3] at hoe; cases hoe; simp at hce
      exact wpAny_setField_rec hz3 (by simp) fun h4 _ hs4 => hE h4 e (fun c o hc x => hs4.extBut _ _ (fun z => hc (by rw [z]; simp)) (hs3 _ _ (fun z => hc (by rw [z]; simp)) (k2 c o hc x))) ⟨oe, hs4.extBut _ _ hez hoe, hce⟩
    | some x1 =>
      exfalso
      rcases hend with h | h
      · rw [e0] at h; cases h
      · rw [e1] at h; cases h
end
end LD
namespace LD
open PySem PySem.Spec PyProof.Rows L2
def SqB (K : PySem.W.Frag) (H : Hp) : Bool -> Addr -> List V -> Prop
  | true, a, xs => SqL K H a xs
  | false, a, xs => SqT K H a xs
def zgs : D -> Bool
  | .tup _ => false
  | _ => true
def zeh : D -> Bool
  | .tup _ => true
  | .lst _ => true
  | .frz _ => true
  | .cell _ => true
  | _ => false
theorem zid {X : Cx} {pins : List (Addr × Obj)} {σ : L2.St} {H : Hp} {s : Shared} {b : Bool} {a : Addr} {xs : List V} (I : Inv X pins σ H s) (h : SqB X.K H b a xs) : ∃ its : List Value, Vals xs its /\ zb8 b s.heap a its.toArray := by
  cases b with
  | true => obtain ⟨its, r, p, _⟩ := I.list h; exact ⟨its, r, p.isList⟩
  | false => obtain ⟨its, r, p, _⟩ := I.tuple h; exact ⟨its, r, p⟩
theorem zon {X : Cx} {pins : List (Addr × Obj)} {σ : L2.St} {H : Hp} {s : Shared} {b : Bool} {a : Addr} {xs ys : List V} (I : Inv X pins σ H s) (h : SqB X.K H b a xs) (h' : SqB X.K H b a ys) : xs = ys := by
  cases b with
  | true => exact I.list_inj h h'
  | false => exact I.tuple_inj h h'
theorem zkg {fa : Fa} {X : Cx} {μ : Mu} {H : Hp} {M : Mem} {d : D} {a : Addr} {ds : List D} (hM : RelM fa X.K μ H M) (h : Rep fa X.K μ H d (.ref a)) (e : zcx M d = some ds) : ∃ vs, SqB X.K H (zgs d) a vs /\ za0 fa X.K μ H ds vs := by
  cases d with
  | tup xs => cases e; obtain ⟨a', vs, e, s, r⟩ := h; cases e; exact ⟨vs, s, r⟩
  | lst xs => obtain ⟨a', vs, e', s, r⟩ := zcd hM h (show rdD M (.lst xs) = some ds from e); cases e'; exact ⟨vs, s, r⟩
  | frz xs => obtain ⟨a', vs, e', s, r⟩ := zcd hM h (show rdD M (.frz xs) = some ds from e); cases e'; exact ⟨vs, s, r⟩
  | cell k => obtain ⟨a', vs, e', s, r⟩ := zcd hM h (show rdD M (.cell k) = some ds from e); cases e'; exact ⟨vs, s, r⟩
  | _ => cases e
theorem zom {fa : Fa} {X : Cx} {pins : List (Addr × Obj)} {σ : L2.St} {μ : Mu} {H : Hp} {s : Shared} {M : Mem} {d : D} {v : V} (I : Inv X pins σ H s) (hM : RelM fa X.K μ H M) (h : Rep fa X.K μ H d v) (e : zeh d = true) : ∃ (a : Nat) (its : Array Value), v = .ref a /\ zb8 (zgs d) s.heap a its := by
  have key : ∀ ds, zcx M d = some ds -> ∃ (a : Nat) (its : Array Value), v = .ref a /\ zb8 (zgs d) s.heap a its := fun ds z => by
    obtain ⟨a, vs, rfl, _, _⟩ := zhl hM h z
    obtain ⟨vs, s1, _⟩ := zkg hM h z
    obtain ⟨its, _, p⟩ := zid I s1
    exact ⟨a, its.toArray, rfl, p⟩
  cases d with
  | tup xs => exact key xs rfl
  | lst xs => exact key xs rfl
  | frz xs => exact key xs rfl
  | cell k =>
    obtain ⟨a, e, hk⟩ := id h
    obtain ⟨ds, _, z, _⟩ := hM.mu_lt hk
    exact key ds z
  | _ => cases e
theorem zb8.lt {b : Bool} {h : Heap} {a : Addr} {its : Array Value} (x : zb8 b h a its) : a < h.objs.size := by
  cases b <;> (obtain ⟨o, ho, r⟩ := x; exact Heap.lt_size ho)
theorem zb8.push {b : Bool} {h : Heap} {a : Addr} {its : Array Value} (x : zb8 b h a its) (ob : Obj) : zb8 b (h.push ob) a its := by
  cases b <;> (obtain ⟨o, ho, r⟩ := x; exact ⟨o, Heap.get?_push_of_some _ ho, r⟩)
def zn3 (b : Bool) (a : Addr) : Obj := { cls := .type (if b then "list_iterator" else "tuple_iterator"), data := .fields #[.ref a, .int 0 0] }
theorem zco.new {b : Bool} {h : Heap} {it a : Addr} (e : h.get? it = some (zn3 b a)) : zco b h it a 0 := by
  cases b <;> exact ⟨_, e, rfl, rfl⟩
theorem zk3 {prog : Program} {w : World} {A : Around} {E : Value -> Shared -> Prop} {s : Shared} {b : Bool} {a : Addr} {its : Array Value} {Q : Value -> Shared -> Prop} (h : zb8 b s.heap a its) (hQ : Q (.ref s.heap.objs.size) { s with heap := s.heap.push (zn3 b a) }) : wpAny (model prog w) A (pyIter (.ref a)) Q E s := by
  cases b with
  | true => exact wpAny_pyIter_list h hQ
  | false => exact wpAny_pyIter_tuple h hQ
def Itz2 (K : PySem.W.Frag) (b0 : Bool) (a0 : Nat) (b1 : Bool) (a1 : Nat) : It :=
  ⟨fun i H => (∃ xs x, SqB K H b0 a0 xs /\ xs[i]? = some x) /\ (∃ xs x, SqB K H b1 a1 xs /\ xs[i]? = some x),
   fun i H v H' => ∃ p x0 x1, H p = none /\ v = .ref p /\ H' = upd H p (.tup [x0, x1]) /\ (∀ xs, SqB K H b0 a0 xs -> xs[i]? = some x0) /\ (∀ xs, SqB K H b1 a1 xs -> xs[i]? = some x1),
   fun i H => ∃ xs0 xs1, SqB K H b0 a0 xs0 /\ SqB K H b1 a1 xs1 /\ (xs0.length ≤ i \/ xs1.length ≤ i)⟩
def zjp (n : Nat) (b0 : Bool) (a0 : Nat) (b1 : Bool) (a1 : Nat) (i : Nat) (h : Heap) (f0 : Value) : Prop := IsZip h (n + 4) (n + 2) (n + 3) f0 /\ h.get? (n + 2) = some { cls := .type "tuple", data := .seq #[.ref n, .ref (n + 1)] } /\ (∃ u0 u1, h.get? (n + 3) = some { cls := .type "tuple", data := .seq #[u0, u1] }) /\ zco b0 h n a0 i /\ zco b1 h (n + 1) a1 i
theorem zjp.keep {n i : Nat} {a0 a1 : Nat} {b0 b1 : Bool} {h h' : Heap} {f0 : Value} (x : zjp n b0 a0 b1 a1 i h f0) (k : ∀ b ∈ [(n + 4), n, (n + 1), (n + 2), (n + 3)], ∀ o, h.get? b = some o -> h'.get? b = some o) : zjp n b0 a0 b1 a1 i h' f0 := by
  obtain ⟨h1, h2, ⟨u0, u1, h3⟩, j0, j1⟩ := x
  exact ⟨k _ (by simp) _ h1, k _ (by simp) _ h2, ⟨u0, u1, k _ (by simp) _ h3⟩, j0.at fun o e => k _ (by simp) o e, j1.at fun o e => k _ (by simp) o e⟩
theorem zse {P : Program} {w : World} {K : PySem.W.Frag} {elts : List PySem.Expr} {kk : Nat} {pos : Pos} (n : Nat) (b0 : Bool) (a0 : Nat) (b1 : Bool) (a1 : Nat) (hn : a0 < n /\ a1 < n) :
    Turn P w K (.Tuple elts kk pos) (Itz2 K b0 a0 b1 a1) [(n + 4), n, (n + 1), (n + 2), (n + 3)] (n + 4) (fun i h => zjp n b0 a0 b1 a1 i h .none) where
  mem := by simp
  obj := fun i h ⟨h1, h2, ⟨u0, u1, h3⟩, j0, j1⟩ b hb => by
    simp only [List.mem_cons, List.not_mem_nil, or_false] at hb
    rcases hb with z | z | z | z | z
    · subst z; exact ⟨_, h1, fun v z => by cases z⟩
    · subst z; exact j0.obj
    · subst z; exact j1.obj
    · subst z; exact ⟨_, h2, fun v z => by cases z⟩
    · subst z; exact ⟨_, h3, fun v z => by cases z⟩
  keep := fun i h h' st k => st.keep k
  item := by
    intro X hP hw hK hc i pins s σ H E I hf st hg
    subst hP hw hK
    obtain ⟨⟨xs0, x0, hq0, hx0⟩, ⟨xs1, x1, hq1, hx1⟩⟩ := hg
    obtain ⟨h1, h2, ⟨u0, u1, h3⟩, j0, j1⟩ := st
    obtain ⟨its0, rv0, p0⟩ := zid I hq0
    obtain ⟨w0, hw0, rw0⟩ := rv0.get hx0
    obtain ⟨its1, rv1, p1⟩ := zid I hq1
    obtain ⟨w1, hw1, rw1⟩ := rv1.get hx1
    have hT : s.TypeIs (.ref (n + 4)) "zip" := ⟨_, h1, rfl⟩
    unfold pyNext
    refine wpAny_bind (wpAny_attempt (wpAny_callSpecial?_slot (name := Str.ofString "__next__") hT F.slot_zip_next
      (wpAny_call_entry F.slot_zip_next hT F.entry_zip_next
        (zr3 (E := _) hn h1 h2 h3 j0 j1 p0 p1 (x0 := w0) (by simpa using hw0) (x1 := w1) (by simpa using hw1) fun h4 z1 z2 g0 g1 hTT hsz hk => wpAny_pure ⟨_, rfl, ?_⟩) (F.args_zip_next_1 _))))
    have hT0 : H s.heap.objs.size = none := I.hok.fresh (Nat.le_refl _)
    have zlt : (n + 4) < s.heap.objs.size := Heap.lt_size h1
    refine wpAny_letOwnedTupleGo_zip (s := { s with heap := h4 }) z1 fun h5 hz5 hs5 => ?_
    have hT5 : h5.get? s.heap.objs.size = some { cls := .type "tuple", data := .seq #[w0, w1] } := (hs5.2 _ (Nat.ne_of_gt zlt)).trans hTT
    refine ⟨.ref s.heap.objs.size, upd H s.heap.objs.size (.tup [x0, x1]), zmy (s := s) (t' := s.toks) I hf (fun b o hb q => (hs5.2 b (fun z => hb (by rw [z]; simp))).trans (hk b o (fun z => hb (by simp only [List.mem_cons, List.not_mem_nil, or_false] at z ⊢; rcases z with z | z | z | z <;> simp [z])) q)) (Nat.le_refl _) ⟨?_, [w0, w1], .cons rw0 (.cons rw1 (.nil)), ⟨_, hT5, rfl, _, rfl⟩⟩, rfl,
      ⟨_, x0, x1, hT0, rfl, rfl, fun ys hy => by rw [zon I hy hq0]; exact hx0, fun ys hy => by rw [zon I hy hq1]; exact hx1⟩, ⟨hz5, hs5.extBut _ _ (zb5 (by omega)) (hk _ _ (by simp) h2), ⟨w0, w1, hs5.extBut _ _ (zb5 (by omega)) z2⟩, g0.extBut hs5.extBut (zb5 (by omega)), g1.extBut hs5.extBut (zb5 (by omega))⟩, fun b hb => ?_⟩
    · show 2 ≤ sizeLine; decide
    · have : b < s.heap.objs.size := by
        have zl : (n + 4) < s.heap.objs.size := zlt
        simp only [List.mem_cons, List.not_mem_nil, or_false] at hb
        rcases hb with z | z | z | z | z <;> (rw [z]; (first | exact zl | exact Nat.lt_trans (by omega) zl))
      rw [za6 (Nat.ne_of_lt this)]; exact (hf b hb).1
  done := by
    intro X hP hw hK hc i pins s σ H E I hf st hg
    subst hP hw hK
    obtain ⟨xs0, xs1, hq0, hq1, hend⟩ := hg
    obtain ⟨h1, h2, ⟨u0, u1, h3⟩, j0, j1⟩ := st
    obtain ⟨its0, rv0, p0⟩ := zid I hq0
    have hl0 := rv0.length
    obtain ⟨its1, rv1, p1⟩ := zid I hq1
    have hl1 := rv1.length
    have hT : s.TypeIs (.ref (n + 4)) "zip" := ⟨_, h1, rfl⟩
    unfold pyNext
    refine wpAny_bind (wpAny_attempt (wpAny_callSpecial?_slot (name := Str.ofString "__next__") hT F.slot_zip_next
      (wpAny_call_entry F.slot_zip_next hT F.entry_zip_next (zt8 (I.ok.hd hc) hn h1 h2 h3 j0 j1 p0 p1 (by
        rcases hend with z | z
        · exact .inl (by simp; omega)
        · exact .inr (by simp; omega)
        ) fun h' e hk he => ?_) (F.args_zip_next_1 _))))
    obtain ⟨o, ho, hcl⟩ := he
    refine wpAny_bind (wpAny_isInstance (T := "StopIteration") (b := true) ⟨o, ho, hcl⟩ isSubtype_stop ?_)
    exact wpAny_pure ⟨rfl, zqf (s := s) I hf (t' := s.toks) fun b o hb q => hk b o (fun z => hb (by simp only [List.mem_cons, List.not_mem_nil, or_false] at z ⊢; rcases z with z | z | z | z <;> simp [z])) q⟩
  self := fun _ _ _ _ _ st h => wpAny_pyIter_zip st.1 h
abbrev zkt (h : Heap) (b0 : Bool) (a0 : Nat) (b1 : Bool) (a1 : Nat) : Heap := h.push (zn3 b0 a0)
abbrev znx (h : Heap) (b0 : Bool) (a0 : Nat) (b1 : Bool) (a1 : Nat) : Heap := (zkt h b0 a0 b1 a1).push (zn3 b1 a1)
abbrev znw (h : Heap) (b0 : Bool) (a0 : Nat) (b1 : Bool) (a1 : Nat) : Heap := (znx h b0 a0 b1 a1).push { cls := .type "tuple", data := .seq #[.ref h.objs.size, .ref (zkt h b0 a0 b1 a1).objs.size] }
abbrev znv (h : Heap) (b0 : Bool) (a0 : Nat) (b1 : Bool) (a1 : Nat) : Heap := (znw h b0 a0 b1 a1).push { cls := .type "tuple", data := .seq #[.none, .none] }
abbrev zik (h : Heap) (b0 : Bool) (a0 : Nat) (b1 : Bool) (a1 : Nat) : Heap := (znv h b0 a0 b1 a1).push { cls := .type "zip", data := .fields #[.none, .bool false, .bool false, .ref (znx h b0 a0 b1 a1).objs.size, .ref (znw h b0 a0 b1 a1).objs.size] }
theorem zrl (b0 : Bool) (a0 : Nat) (b1 : Bool) (a1 : Nat) (xs0 xs1 : Array Value) :
    Meets (Builtin.«zip.__new__» ⟨[.type "zip", .ref a0, .ref a1], []⟩) (fun _ R s => zb8 b0 s.heap a0 xs0 /\ zb8 b1 s.heap a1 xs1 /\
      R (.ok (.ret (.ref (znv s.heap b0 a0 b1 a1).objs.size))) { s with heap := zik s.heap b0 a0 b1 a1 }) :=
  .of_wp fun prog w A R s h => by
    obtain ⟨hp, g, d, tk, os⟩ := s; obtain ⟨q0, q1, h⟩ := h
    have hsub := sub_zip
    have L0 : zb8 b0 (Shared.heap ⟨hp, g, d, tk, os⟩) a0 xs0 := q0
    have L1 : zb8 b1 (Shared.heap ⟨(zkt hp b0 a0 b1 a1), g, d, tk, os⟩) a1 xs1 := (q1).push _
    wp_walk using zk3 L0, zk3 L1
    exact ⟨_, rfl, h⟩
theorem zt2 {prog : Program} {w : World} {A : Around} {E : Value -> Shared -> Prop} {s : Shared} {a0 a1 : Nat} {b0 b1 : Bool} {xs0 xs1 : Array Value} {Q : Value -> Shared -> Prop} (q0 : zb8 b0 s.heap a0 xs0) (q1 : zb8 b1 s.heap a1 xs1)
    (h : ∀ h', zjp s.heap.objs.size b0 a0 b1 a1 0 h' .none -> (∀ c o, s.heap.get? c = some o -> h'.get? c = some o) -> Q (.ref (s.heap.objs.size + 4)) { s with heap := h' }) :
    wpAny (model prog w) A (call (.type "zip") [.ref a0, .ref a1]) Q E s := by
  refine callType_new F.called_zip (by decide) (F.typeCall_zip_2 _ _) (F.newCall_zip_2 _ _) (fun obj => F.args_object_init_3 obj _ _) F.entry_zip_new (zrl b0 a0 b1 a1 xs0 xs1) ⟨q0, q1, ?_⟩
  have z1 : (zkt s.heap b0 a0 b1 a1).objs.size = s.heap.objs.size + 1 := by rw [Heap.size_push]
  have z2 : (znx s.heap b0 a0 b1 a1).objs.size = s.heap.objs.size + 2 := by rw [Heap.size_push, z1]
  have z3 : (znw s.heap b0 a0 b1 a1).objs.size = s.heap.objs.size + 3 := by rw [Heap.size_push, z2]
  have z4 : (znv s.heap b0 a0 b1 a1).objs.size = s.heap.objs.size + 4 := by rw [Heap.size_push, z3]
  have z5 : (zik s.heap b0 a0 b1 a1).objs.size = s.heap.objs.size + 5 := by rw [Heap.size_push, z4]
  have g1 : (zik s.heap b0 a0 b1 a1).get? s.heap.objs.size = some _ := Heap.get?_push_of_some _ (Heap.get?_push_of_some _ (Heap.get?_push_of_some _ (Heap.get?_push_of_some _ (Heap.get?_push_size _ rfl))))
  have g2 : (zik s.heap b0 a0 b1 a1).get? (zkt s.heap b0 a0 b1 a1).objs.size = some _ := Heap.get?_push_of_some _ (Heap.get?_push_of_some _ (Heap.get?_push_of_some _ (Heap.get?_push_size _ rfl)))
  have g3 : (zik s.heap b0 a0 b1 a1).get? (znx s.heap b0 a0 b1 a1).objs.size = some _ := Heap.get?_push_of_some _ (Heap.get?_push_of_some _ (Heap.get?_push_size _ rfl))
  have g4 : (zik s.heap b0 a0 b1 a1).get? (znw s.heap b0 a0 b1 a1).objs.size = some _ := Heap.get?_push_of_some _ (Heap.get?_push_size _ rfl)
  have g5 : (zik s.heap b0 a0 b1 a1).get? (znv s.heap b0 a0 b1 a1).objs.size = some _ := Heap.get?_push_size _ rfl
  show _ /\ _
  rw [z1] at g2
  rw [z2] at g3
  rw [z3] at g4
  rw [z4] at g5
  rw [z1] at g3
  rw [z2, z3] at g5
  rw [z4]
  exact ⟨⟨_, g5, rfl⟩, h _ ⟨g5, g3, ⟨_, _, g4⟩, zco.new g1, zco.new g2⟩ fun c o x => Heap.get?_push_of_some _ (Heap.get?_push_of_some _ (Heap.get?_push_of_some _ (Heap.get?_push_of_some _ (Heap.get?_push_of_some _ (x)))))⟩
def znu (d0 d1 : D) : Walk := fun M => (zcx M d0).bind fun y0 => (zcx M d1).map fun y1 => zhz y0 y1
def zlp (g0 g1 : Env -> Mem -> Res D) : Env -> Mem -> Res Walk := fun ρ M => (g0 ρ M).bind fun d0 M => (g1 ρ M).bind fun d1 M => if zeh d0 && zeh d1 then .ok (znu d0 d1) M else .bad
theorem zoa : ∀ (y0 y1 : List D) (i : Nat) (d : D), (zhz y0 y1)[i]? = some d ↔ ∃ e0 e1, y0[i]? = some e0 /\ y1[i]? = some e1 /\ d = .tup [e0, e1]
  | c0 :: t0, c1 :: t1, 0, d => by simp [zhz, eq_comm]
  | c0 :: t0, c1 :: t1, i + 1, d => by
    have := zoa t0 t1 i d
    simpa [zhz] using this
  | [], _, i, d => by simp [zhz]
  | _ :: _, [], i, d => by simp [zhz]
theorem zn9 : ∀ (y0 y1 : List D) (i : Nat), (zhz y0 y1).length ≤ i -> y0.length ≤ i \/ y1.length ≤ i
  | c0 :: t0, c1 :: t1, 0, h => by simp [zhz] at h
  | c0 :: t0, c1 :: t1, i + 1, h => by
    have := zn9 t0 t1 i (by simpa [zhz] using h)
    simpa using this
  | [], _, i, h => by simp
  | _ :: _, [], i, h => by simp
theorem zr8 {fa : Fa} {X : Cx} {μ0 : Mu} {H0 : Hp} {d0 d1 : D} {a0 a1 : Nat} (r0 : Rep fa X.K μ0 H0 d0 (.ref a0)) (r1 : Rep fa X.K μ0 H0 d1 (.ref a1)) : zen fa X.K μ0 H0 (znu d0 d1) (Itz2 X.K (zgs d0) a0 (zgs d1) a1) := fun μ H M ds x hM e => by
  unfold znu at e
  cases s0 : zcx M d0 with
  | none => simp [s0] at e
  | some y0 =>
  cases s1 : zcx M d1 with
  | none => simp [s0, s1] at e
  | some y1 =>
  simp only [s0, s1, Option.bind_some, Option.map_some, Option.some.injEq] at e
  subst e
  obtain ⟨v0, q0, l0⟩ := zkg hM (Rep.extW x r0) s0
  obtain ⟨v1, q1, l1⟩ := zkg hM (Rep.extW x r1) s1
  refine ⟨fun i d hd => ?_, fun i hi => ⟨v0, v1, q0, q1, ?_⟩⟩
  · obtain ⟨e0, e1, h0, h1, rfl⟩ := (zoa y0 y1 i d).mp hd
    obtain ⟨w0, hw0, rw0⟩ := l0.get h0
    obtain ⟨w1, hw1, rw1⟩ := l1.get h1
    refine ⟨⟨⟨v0, w0, q0, hw0⟩, ⟨v1, w1, q1, hw1⟩⟩, fun y H' ⟨p, x0, x1, hp, ey, eH, t0, t1⟩ => ?_⟩
    have z0 := t0 v0 q0
    rw [hw0] at z0; cases z0
    have z1 := t1 v1 q1
    rw [hw1] at z1; cases z1
    subst eH ey
    exact ⟨Ext.alloc hM hp, hM.alloc hp, p, [w0, w1], rfl, .inl (.inl zc8), ⟨w0, [w1], rfl, rw0.ext (Ext.alloc hM hp), ⟨w1, [], rfl, rw1.ext (Ext.alloc hM hp), rfl⟩⟩⟩
  · rcases zn9 y0 y1 i hi with z | z
    · exact .inl (by rw [l0.length]; exact z)
    · exact .inr (by rw [l1.length]; exact z)
theorem zyj {fa : Fa} {X : Cx} {elts : List PySem.Expr} {kk : Nat} {tp p pos : Pos} {e0 e1 : PySem.Expr} {g0 g1 : Env -> Mem -> Res D} (h0 : DE fa X e0 g0) (h1 : DE fa X e1 g1) (hg : Gl X "zip") (hm : X.mg "zip" = none)
    (hs0 : starEach [e0, e1] X.env = [(false, eval e0 X.env), (false, eval e1 X.env)]) (hs1 : starEach [e1] X.env = [(false, eval e1 X.env)]) : DI fa X (.Tuple elts kk tp) (.Call (.Name "zip" p) [e0, e1] [] pos) (zlp g0 g1) := by
  intro pins s σ H R I ⟨μ, ρ, M, hE, hM, h⟩
  obtain ⟨d0, M0, c0, t0⟩ := zbd h
  obtain ⟨d1, M1, c1, t1⟩ := zbd t0
  split at t1
  · next hsq =>
    simp only [Bool.and_eq_true] at hsq
    obtain ⟨hq0, hq1⟩ := hsq
    refine Call_ (zgy I hg hm boot_zip (PyProof.Rows.callWith_type1 (thn (zft h0 (zft h1 zho hs1) (by rw [hs0, hs1]) pos pins s σ H (fun vs H1 => ∃ v0 v1 μ1, vs = [v0, v1] /\ Ext μ H μ1 H1 /\ RelM fa X.K μ1 H1 M1 /\ Rep fa X.K μ1 H1 d0 v0 /\ Rep fa X.K μ1 H1 d1 v1) I ?_) fun us s1 ⟨vs, H1, I1, r1, v0, v1, μ1, ev, x1, m1, rv0, rv1⟩ => ?_) (by rw [hs0, hs1]) (by rw [hs1]; rfl)))
    · refine ⟨μ, ρ, M, hE, hM, ?_⟩
      rw [c0]
      intro v0 H1 μ1 x1 m1 r0
      refine ⟨μ1, ρ, M0, (hE.ext x1), m1, ?_⟩
      rw [c1]
      intro v1 H2 μ2 x2 m2 r1
      exact ⟨v0, v1, μ2, rfl, (x1.trans x2), m2, (r0.ext x2), r1⟩
    subst ev
    obtain ⟨a0, its0, rfl, z0⟩ := zom I1 m1 rv0 hq0
    obtain ⟨a1, its1, rfl, z1⟩ := zom I1 m1 rv1 hq1
    cases r1 with
    | cons y0 r1 =>
      cases r1 with
      | cons y1 r1 =>
        cases r1
        obtain rfl := y0
        obtain rfl := y1
        refine zt2 z0 z1 fun h1 za hk => ?_
        have I2 : Inv X pins σ H1 { s1 with heap := h1 } := I1.kept (t' := s1.toks) hk
        refine wpAny_pyIter_zip (s := { s1 with heap := h1 }) za.1 ?_
        refine ⟨s1.heap.objs.size + 4, [s1.heap.objs.size + 4, s1.heap.objs.size, s1.heap.objs.size + 1, s1.heap.objs.size + 2, s1.heap.objs.size + 3], _, _, H1, rfl, I2, zse s1.heap.objs.size (zgs d0) a0 (zgs d1) a1 ⟨z0.lt, z1.lt⟩, za, fun b hb => ?_, t1 _ H1 μ1 x1 m1 (zr8 rv0 rv1)⟩
        have hb : s1.heap.objs.size ≤ b := by
          simp only [List.mem_cons, List.not_mem_nil, or_false] at hb
          rcases hb with z | z | z | z | z <;> (rw [z]; first | exact Nat.le_refl _ | exact Nat.le_add_right _ _)
        exact I1.fpOk hb (I1.hok.fresh hb)
  · exact t1.elim
def zpy (n : Nat) (b0 : Bool) (a0 : Nat) (b1 : Bool) (a1 : Nat) (b2 : Bool) (a2 : Nat) (i : Nat) (h : Heap) (f0 : Value) : Prop := IsZip h (n + 5) (n + 3) (n + 4) f0 /\ h.get? (n + 3) = some { cls := .type "tuple", data := .seq #[.ref n, .ref (n + 1), .ref (n + 2)] } /\ (∃ u0 u1 u2, h.get? (n + 4) = some { cls := .type "tuple", data := .seq #[u0, u1, u2] }) /\ zco b0 h n a0 i /\ zco b1 h (n + 1) a1 i /\ zco b2 h (n + 2) a2 i
theorem zpy.keep {n i : Nat} {a0 a1 a2 : Nat} {b0 b1 b2 : Bool} {h h' : Heap} {f0 : Value} (x : zpy n b0 a0 b1 a1 b2 a2 i h f0) (k : ∀ b ∈ [(n + 5), n, (n + 1), (n + 2), (n + 3), (n + 4)], ∀ o, h.get? b = some o -> h'.get? b = some o) : zpy n b0 a0 b1 a1 b2 a2 i h' f0 := by
  obtain ⟨h1, h2, ⟨u0, u1, u2, h3⟩, j0, j1, j2⟩ := x
  exact ⟨k _ (by simp) _ h1, k _ (by simp) _ h2, ⟨u0, u1, u2, k _ (by simp) _ h3⟩, j0.at fun o e => k _ (by simp) o e, j1.at fun o e => k _ (by simp) o e, j2.at fun o e => k _ (by simp) o e⟩
def zipW3 (d0 d1 d2 : D) : Walk := fun M => (zcx M d0).bind fun y0 => (zcx M d1).bind fun y1 => (zcx M d2).map fun y2 => zip3L y0 y1 y2
def zrw (g0 g1 g2 : Env -> Mem -> Res D) : Env -> Mem -> Res Walk := fun ρ M => (g0 ρ M).bind fun d0 M => (g1 ρ M).bind fun d1 M => (g2 ρ M).bind fun d2 M => if zeh d0 && zeh d1 && zeh d2 then .ok (zipW3 d0 d1 d2) M else .bad
end LD
namespace LD
open PySem PySem.Spec PyProof.Rows L2
abbrev GE := Env -> Mem -> Res D
abbrev GT := Env -> Mem -> Res Bool
abbrev GA := Env -> Mem -> Res (List D)
abbrev GW := Env -> Mem -> Res Walk
abbrev GS := Env -> Mem -> Res Fl
abbrev GB := Env -> List D -> Mem -> Res (List D)
abbrev Call := Nat -> List D -> Mem -> Res D
def zab (i : Nat) : GE := fun ρ M => ofO M (ρ[i]?.getD none)
def gC (d : D) : GE := fun _ M => .ok d M
def zap (m : Bool) (o : Bin) (a b : GE) : GE := fun ρ M => (a ρ M).bind fun x M => (b ρ M).bind fun y M => ze2 m o x y M
def za4 (o : Cmp) (a b : GE) : GE := fun ρ M => (a ρ M).bind fun x M => (b ρ M).bind fun y M => (ofO M (zb4 o x y M)).bind fun b M => .ok (.bl b) M
def zh5 (o o' : Cmp) (a b c : GE) : GE := fun ρ M => (a ρ M).bind fun x M => (b ρ M).bind fun y M => (ofO M (zb4 o x y M)).bind fun k M =>
  if k then (c ρ M).bind fun z M => (ofO M (zb4 o' y z M)).bind fun b M => .ok (.bl b) M else .ok (.bl false) M
def zfb (a : GE) : GE := fun ρ M => (a ρ M).bind fun x M => match x with | .int i => .ok (.int (-i)) M | _ => .bad
def zd2 (a b : GE) : GE := fun ρ M => (a ρ M).bind fun x M => match x with | .bl true => b ρ M | .bl false => .ok (.bl false) M | _ => .bad
def gOr (a b : GE) : GE := fun ρ M => (a ρ M).bind fun x M => match x with | .bl true => .ok (.bl true) M | .bl false => b ρ M | _ => .bad
def gNot (a : GE) : GE := fun ρ M => (a ρ M).bind fun x M => match x with | .bl k => .ok (.bl (!k)) M | _ => .bad
def zjg (t : GT) (a b : GE) : GE := fun ρ M => (t ρ M).bind fun k M => if k then a ρ M else b ρ M
def zaw (a b : GE) : GE := fun ρ M => (a ρ M).bind fun x M => (b ρ M).bind fun y M => ofO M (zgp x y M)
def zdc (m hl hh : Bool) (a lo hi : GE) : GE := fun ρ M => (a ρ M).bind fun x M => (lo ρ M).bind fun l M => (hi ρ M).bind fun h M => if zcu hl l && zcu hh h then zgn m x l h M else .bad
def zag : GA := fun _ M => .ok [] M
def zaa (a : GE) (s : GA) : GA := fun ρ M => (a ρ M).bind fun x M => (s ρ M).bind fun xs M => .ok (x :: xs) M
def za3 (s : GA) : GE := fun ρ M => (s ρ M).bind zir
def zbw (m : Bool) (s : GA) : GE := fun ρ M => (s ρ M).bind (zb1 m)
def zam (f : Nat) (c : Call) (s : GA) : GE := fun ρ M => (s ρ M).bind fun ds M => c f ds M
def zih (i : Nat) (c : Call) (s : GA) : GE := fun ρ M => match ρ[i]?.getD none with | some (.fn f) => (s ρ M).bind fun ds M => c f ds M | _ => .bad
def zbe (f : Blt) (s : GA) : GE := fun ρ M => (s ρ M).bind fun ds M => zfk f ds M
def zb6 (t : Ty) (a : GE) : GE := fun ρ M => (a ρ M).bind fun x M => (ofO M (zbo t x)).bind fun b M => .ok (.bl b) M
def zar (a : GE) : GT := fun ρ M => (a ρ M).bind fun x M => ofO M (zh2 M x)
def zgm (a b : GT) : GT := fun ρ M => (a ρ M).bind fun k M => if k then b ρ M else .ok false M
def tOr (a b : GT) : GT := fun ρ M => (a ρ M).bind fun k M => if k then .ok true M else b ρ M
def zb3 (a : GT) : GT := fun ρ M => (a ρ M).bind fun k M => .ok (!k) M
def zax (t : Tgt) (a : GE) : GS := fun ρ M => (a ρ M).bind fun x M => (ofO M (zdt t x ρ)).bind fun ρ1 M => .ok (.next ρ1) M
def zfa (a b d : GE) : GS := fun ρ M => (d ρ M).bind fun z M => (a ρ M).bind fun x M => (b ρ M).bind fun y M => match x, y with
  | .cell k, .int n => match M[k]? with
    | some ds => match ixN ds.length n with
      | some j => .ok (.next ρ) (M.set k (ds.set j z))
      | none => .bad
    | none => .bad
  | _, _ => .bad
def ziq (a d : GE) : GS := fun ρ M => (a ρ M).bind fun x M => (d ρ M).bind fun z M => match x with
  | .cell k => match M[k]? with
    | some ds => if ds.length < sz then .ok (.next ρ) (M.set k (ds ++ [z])) else .bad
    | none => .bad
  | _ => .bad
def sEx (a : GE) : GS := fun ρ M => (a ρ M).bind fun _ M => .ok (.next ρ) M
def zas (a : GE) : GS := fun ρ M => (a ρ M).bind fun x M => .ok (.ret x) M
def sRetN : GS := fun _ M => .ok (.ret .non) M
def sPass : GS := fun ρ M => .ok (.next ρ) M
def zja : GS := fun _ _ => .bad
def za2 (c : GT) (a b : GS) : GS := fun ρ M => (c ρ M).bind fun k M => if k then a ρ M else b ρ M
def zd1 (t : Tgt) (w : GW) (b : GS) : GS := fun ρ M => (w ρ M).bind fun w M => zfc (zg5 t b) w (.next ρ) M
def zaj : GS := fun ρ M => .ok (.next ρ) M
def zae (a b : GS) : GS := fun ρ M => (a ρ M).bind fun fl M => match fl with
  | .next ρ => b ρ M
  | .ret d => .ok (.ret d) M
def notStar : PySem.Expr -> Bool
  | .Starred _ _ => false
  | _ => true
theorem zep {a : PySem.Expr} {es : List PySem.Expr} {env : PySem.Env} (h : notStar a = true) : starEach (a :: es) env = (false, eval a env) :: starEach es env := by
  cases a <;> first | rfl | cases h
theorem zf5 {pos : Pos} {env : PySem.Env} : ∀ {es : List PySem.Expr}, es.all notStar = true -> (backTo pos (starEach es env)).any (·.1) = false
  | [], _ => rfl
  | a :: es, h => by
    simp only [List.all_cons, Bool.and_eq_true] at h
    have ih := zf5 (pos := pos) (env := env) h.2
    rw [zep h.1]
    simpa [backTo] using ih
section
variable {fa : Fa} {X : Cx} {a b d : PySem.Expr} {ga gb gd : GE} {ta tb : GT} {pos p : Pos} {es : List PySem.Expr} {gs : GA} {n : Nat}
theorem r_var {i : Nat} {x : Str} (hN : X.N[i]? = some x) (hv : Vis X.env.scope x) (hd : (x == ("__debug__" : Str)) = false) (hcd : (x == ("__classdict__" : Str)) = false) : DE fa X (.Name x pos) (zab i) := d_var hN hv hd hcd
theorem r_int {i : Int} {j : Nat} : DE fa X (.Constant (.int i) j pos) (gC (.int i)) := d_int
theorem r_bl {i : Bool} {j : Nat} : DE fa X (.Constant (.bool i) j pos) (gC (.bl i)) := d_bl
theorem r_str {i : Str} {j : Nat} : DE fa X (.Constant (.str i) j pos) (gC (.str i)) := d_str
theorem r_non {j : Nat} : DE fa X (.Constant .none j pos) (gC .non) := d_non
theorem r_gint {x : Str} {i : Int} {t : Tok} (hg : Gl X x) (hm : X.mg x = some (.int i t)) (hd : (x == ("__debug__" : Str)) = false) : DE fa X (.Name x pos) (gC (.int i)) := zij (v := .int i) (zmb hg hm ⟨t, rfl⟩ hd) fun _ _ => rfl
theorem r_bin (m : Bool) (o : Bin) (ha : DE fa X a ga) (hb : DE fa X b gb) : DE fa X (.BinOp a (binOp o) b pos) (zap m o ga gb) := d_bin m o ha hb
theorem r_cmp (hu : Rm X) (o : Cmp) (ha : DE fa X a ga) (hb : DE fa X b gb) (hm : behindInMarks (zb2 o) b = false) : DE fa X (.Compare a [zb2 o] [b] pos) (za4 o ga gb) := d_cmp hu o ha hb hm
theorem q_cmp (hu : Rm X) (o : Cmp) (ha : DE fa X a ga) (hb : DE fa X b gb) (hm : behindInMarks (zb2 o) b = false) : DT fa X (.Compare a [zb2 o] [b] pos) (zar (za4 o ga gb)) := dt_cmp hu o ha hb hm
theorem r_chn (hu : Rm X) (o o' : Cmp) {gc : GE} (ha : DE fa X a ga) (hb : DE fa X b gb) (hc : DE fa X d gc) (hm : lastMarks [zb2 o, zb2 o'] [b, d] = false) : DE fa X (.Compare a [zb2 o, zb2 o'] [b, d] pos) (zh5 o o' ga gb gc) := d_chn hu o o' ha hb hc hm
theorem q_chn (hu : Rm X) (o o' : Cmp) {gc : GE} (ha : DE fa X a ga) (hb : DE fa X b gb) (hc : DE fa X d gc) (hm : lastMarks [zb2 o, zb2 o'] [b, d] = false) : DT fa X (.Compare a [zb2 o, zb2 o'] [b, d] pos) (zar (zh5 o o' ga gb gc)) := dt_chn hu o o' ha hb hc hm
theorem r_neg (ha : DE fa X a ga) : DE fa X (.UnaryOp .USub a pos) (zfb ga) := d_neg ha
theorem r_and {rest : List PySem.Expr} (ha : DE fa X a ga) (hb : DE fa X (.BoolOp .And (b :: rest) pos) gb) : DE fa X (.BoolOp .And (a :: b :: rest) pos) (zd2 ga gb) := d_and ha hb
theorem r_one {op : PySem.BoolOp} (ha : DE fa X a ga) : DE fa X (.BoolOp op [a] pos) ga := d_one ha
theorem r_not (ha : DE fa X a ga) : DE fa X (.UnaryOp .Not a pos) (gNot ga) := d_not ha
theorem q_and {rest : List PySem.Expr} (ha : DT fa X a ta) (hb : DW fa X (.BoolOp .And (b :: rest) pos) tb) : DW fa X (.BoolOp .And (a :: b :: rest) pos) (zgm ta tb) := dw_and ha hb
theorem q_or {rest : List PySem.Expr} (ha : DT fa X a ta) (hb : DW fa X (.BoolOp .Or (b :: rest) pos) tb) : DW fa X (.BoolOp .Or (a :: b :: rest) pos) (tOr ta tb) := dw_or ha hb
theorem q_and1 (ha : DT fa X a ta) : DW fa X (.BoolOp .And [a] pos) ta := zyf ha
theorem q_or1 (ha : DT fa X a ta) : DW fa X (.BoolOp .Or [a] pos) ta := dw_or1 ha
theorem q_w (h : DW fa X a ta) : DT fa X a ta := PW.pt h
theorem q_not (ha : DT fa X a ta) : DT fa X (.UnaryOp .Not a pos) (zb3 ta) := dt_not ha
theorem q_tru (ha : DE fa X a ga) (he : ∀ whole, isTrue a X.env whole = (do let v <- whole; standAt a.pos; holding [v] (truthy v))) : DT fa X a (zar ga) := zvr ha he
theorem r_ite {c : PySem.Expr} (hc : DT fa X c ta) (ha : DE fa X a ga) (hb : DE fa X b gb) : DE fa X (.IfExp c a b pos) (zjg ta ga gb) := d_ite hc ha hb
theorem r_idx (ha : DE fa X a ga) (hb : DE fa X b gb) (hs : zgr b) : DE fa X (.Subscript a b pos) (zaw ga gb) := d_idx ha hb hs
theorem r_slc (m hl hh : Bool) {lo hi : Option PySem.Expr} {gl gh : GE} {p2 : Pos} (ha : DE fa X a ga) (hlo : DO fa X lo hl gl) (hhi : DO fa X hi hh gh) : DE fa X (.Subscript a (.Slice lo hi none p2) pos) (zdc m hl hh ga gl gh) := d_slc m hl hh ha hlo hhi
theorem o_none : DO fa X none false (gC .non) := zyi
theorem o_some (ha : DE fa X a ga) : DO fa X (some a) true ga := zyh ha
theorem a_nil : DA fa X [] zag := da_nil
theorem a_cons (ha : DE fa X a ga) (hs : DA fa X es gs) (h0 : notStar a = true) : DA fa X (a :: es) (zaa ga gs) := zyq ha hs (zep h0)
theorem r_tup {k : Nat} (hs : DA fa X es gs) : DE fa X (.Tuple es k pos) (za3 gs) := d_tup hs
theorem r_lst (m : Bool) (hs : DA fa X es gs) : DE fa X (.List es pos) (zbw m gs) := d_lst m hs
theorem r_call (f : Nat) {x : Str} {call : Call} (C : ∀ f, zfp fa X.prog X.w X.K X.mg X.base n f (call f)) (hr : zbk n X.A) (hg : Gl X x) (hm : ∀ ad, fa f = some ad -> X.mg x = some (.ref ad)) (hs : DA fa X (a :: es) gs)
    (hdb : (x == ("__debug__" : Str)) = false) (he : notStar a = true) (hpl : es.all notStar = true) : DE fa X (.Call (.Name x p) (a :: es) [] pos) (zam f call gs) := d_call (C f) hr hg hm hs hdb (zep he) (zf5 hpl)
theorem zxj {i : Nat} {x : Str} {call : Call} (C : ∀ f, zfp fa X.prog X.w X.K X.mg X.base n f (call f)) (hr : zbk n X.A) (hN : X.N[i]? = some x) (hv : Vis X.env.scope x) (hs : DA fa X (a :: es) gs)
    (hd : (x == ("__debug__" : Str)) = false) (hcd : (x == ("__classdict__" : Str)) = false) (he : notStar a = true) (hpl : es.all notStar = true) :
    DE fa X (.Call (.Name x p) (a :: es) [] pos) (zih i call gs) := zyr C hr hN hv hs hd hcd (zep he) (zf5 hpl)
theorem r_len (hg : Gl X "len") (hm : X.mg "len" = none) (hs : DA fa X (a :: es) gs) (he : notStar a = true) (hpl : es.all notStar = true) :
    DE fa X (.Call (.Name "len" p) (a :: es) [] pos) (zbe .len gs) := d_blt .len f_len hg hm PySem.boot_len hs (by decide) (by decide) (zep he) (zf5 hpl)
theorem r_all (hc : X.calm = true) (hg : Gl X "all") (hm : X.mg "all" = none) (hs : DA fa X (a :: es) gs) (he : notStar a = true) (hpl : es.all notStar = true) :
    DE fa X (.Call (.Name "all" p) (a :: es) [] pos) (zbe .all gs) := d_blt .all (f_all hc) hg hm (by decide +kernel) hs (by decide) (by decide) (zep he) (zf5 hpl)
theorem zxe (hg : Gl X "tuple") (hm : X.mg "tuple" = none) (hs : DA fa X (a :: es) gs) (he : notStar a = true) (hpl : es.all notStar = true) :
    DE fa X (.Call (.Name "tuple" p) (a :: es) [] pos) (zbe .tuple gs) := ztw .tuple zye hg hm (by decide +kernel) hs (by decide) (by decide) (zep he) (zf5 hpl)
theorem r_list (m : Bool) (hg : Gl X "list") (hm : X.mg "list" = none) (hs : DA fa X (a :: es) gs) (he : notStar a = true) (hpl : es.all notStar = true) :
    DE fa X (.Call (.Name "list" p) (a :: es) [] pos) (zbe (.list m) gs) := ztw (.list m) (f_list m) hg hm (by decide +kernel) hs (by decide) (by decide) (zep he) (zf5 hpl)
theorem r_inst (t : Ty) (ht : ∀ c, t ≠ .own c) {x : Str} {p1 p2 : Pos} (ha : DE fa X a ga) (hg : Gl X "isinstance") (hm : X.mg "isinstance" = none) (hgt : Gl X x) (hmt : X.mg x = none) (hvt : bootBuiltins x = some (.type (tyName t)))
    (hn : x ≠ "__name__") (hdb : (x == ("__debug__" : Str)) = false) (he : starEach [a, .Name x p1] X.env = (false, eval a X.env) :: starEach [.Name x p1] X.env) : DE fa X (.Call (.Name "isinstance" p2) [a, .Name x p1] [] pos) (zb6 t ga) :=
  d_inst t ht ha hg hm (by decide +kernel) hgt hmt hvt hn hdb he
theorem s_asg {tg : PySem.Expr} {t : Tgt} (ha : DE fa X a ga) (hg : PG X tg (gT fa X.K t)) (hs : swapsWithSole [tg] a pos.line X.env = pure false) (hw : swappedStores [tg] a X.env = pure none) (h1 : (assignEach [tg] X.env).map (·.2) = [assign tg X.env]) :
    DS fa X (.Assign [tg] a pos) (zax t ga) := ds_asg ha hg hs hw h1
theorem s_put {p2 : Pos} (ha : DE fa X a ga) (hb : DE fa X b gb) (hd : DE fa X d gd)
    (h0 : ∀ v, assign (.Subscript a b p2) X.env v = (do
      let ov <- holding [v] (eval a X.env)
      let iv <- holding [v, ov] (eval b X.env)
      standAt p2
      holding [v, ov, iv] (setItem ov iv v)
      release [v, ov, iv] [])) (hs : swapsWithSole [.Subscript a b p2] d pos.line X.env = pure false) (hw : swappedStores [.Subscript a b p2] d X.env = pure none) (h1 : (assignEach [.Subscript a b p2] X.env).map (·.2) = [assign (.Subscript a b p2) X.env]) :
    DS fa X (.Assign [.Subscript a b p2] d pos) (zfa ga gb gd) := ds_put ha hb hd h0 hs hw h1
theorem s_app {apos cpos : Pos} (ha : DE fa X a ga) (hd : DE fa X d gd) (hbase : attributeBase a "append" X.env (eval a X.env) = eval a X.env) (hline : (apos.endLine == cpos.line) = true) (hs : starEach [d] X.env = [(false, eval d X.env)])
    (hsw : swapsWith (.Call (.Attribute a "append" apos) [d] [] cpos) none pos.line X.env = pure false) : DS fa X (.Expr (.Call (.Attribute a "append" apos) [d] [] cpos) pos) (ziq ga gd) := ds_app ha hd hbase hline hs hsw
theorem s_ret (ha : DE fa X a ga) : DS fa X (.Return (some a) pos) (zas ga) := ds_ret ha
theorem s_ite {c : PySem.Expr} {st sf : List PySem.Stmt} {gt gf : GS} (hc : DT fa X c ta) (ht : DSs fa X st gt) (hf : DSs fa X sf gf) : DS fa X (.If c st sf pos) (za2 ta gt gf) := ds_ite hc ht hf
theorem s_for {t : Tgt} {tg : PySem.Expr} {body : List PySem.Stmt} {gw : GW} {gb : GS} (hp : PassesOwn (model X.prog X.w) X.A X.env X.xe) (hc : X.calm = true) (hi : DI fa X tg a gw) (hg : PG X tg (gT fa X.K t)) (hb : DSs fa X body gb)
    (hs : ∀ x, foldedSetIterable a X.env x = pure x) : DS fa X (.For tg a body [] pos) (zd1 t gw gb) := ds_for hp hc hi hg hb hs
theorem s_comp (m : Bool) {i : Nat} {y : Str} {py spos : Pos} {elt tg iter : PySem.Expr} {ifs : List PySem.Expr} {rest : List Comprehension} {scope : Scope} {own bn : List Str} {t : Tgt} {W : List Nat} {body : Addr -> PySem.Env -> Sem Unit} {gw : GW} {g : GB}
    (S : zeo X own bn scope) (hcalm : X.calm = true) (hi : DI fa X tg iter gw) (B : Block fa X own bn scope tg t W body g) (hT : zlz X elt tg iter ifs rest scope pos body) (hW : ∀ i ∈ W, i ∉ slots t) (hn : ∀ i ∈ slots t ++ W, i < own.length)
    (hs : ∀ x, foldedSetIterable iter X.env x = pure x) (hN : X.N.Nodup) (hy : X.N[i]? = some y) (hl : X.env.scope.names.lookup y = some .local)
    (hsw : swapsWith (.ListComp elt (⟨tg, iter, ifs, 0⟩ :: rest) scope pos) (some (.Name y py)) spos.line X.env = pure true) :
    DS fa X (.Assign [.Name y py] (.ListComp elt (⟨tg, iter, ifs, 0⟩ :: rest) scope pos) spos) (zax (.one i) (zb7 m own.length t gw g)) := zry m S hcalm hi B hT hW hn hs hN hy hl hsw
theorem ss_nil : DSs fa X [] zaj := zyg
theorem zw3 {st : PySem.Stmt} {ss : List PySem.Stmt} {g g' : GS} (h1 : DS fa X st g) (h2 : DSs fa X ss g') : DSs fa X (st :: ss) (zae g g') := zvs h1 h2
end
structure Df where
  params : Nat
  slots : Nat
  body : Call -> GS
def finD : Fl -> Mem -> Res D
  | .ret d, M => .ok d M
  | .next _, M => .ok .non M
def zg2 (c : Call) (d : Df) (ds : List D) (M : Mem) : Res D := if ds.length = d.params then (d.body c (ds.map some ++ List.replicate (d.slots - ds.length) none) M).bind finD else .bad
def zay (P : Nat -> Option Df) : Nat -> Call
  | 0, _, _, _ => .bad
  | n + 1, f, ds, M => match P f with
    | none => .bad
    | some d => zg2 (zay P n) d ds M
structure zn8 (fa : Fa) (P : Program) (w : World) (K : PySem.W.Frag) (mg : Str -> Option Value) (base : Heap) (f : Nat) (d : Df) : Prop where
  ex : ∃ (ad : Addr) (fd : FuncData) (ps N : List Str) (st : PySem.Stmt) (x qual : Str), fa f = some ad /\ Fun K x qual st ad fd /\ Binds K fd ps [] /\ zbj N ps (zah st) /\ d.params = ps.length /\ d.slots = N.length /\
    ∀ (call : Call) (n : Nat) (cdv : Value) (A : Around) (outer : List PySem.Env) (s : Shared) (H : Hp) (E : XK), (∀ f, zfp fa P w K mg base n f (call f)) -> zbk n (A.deeper (envOfC qual (zah st) s.heap.objs.size ad cdv)) ->
      DSs fa (zca CX0 P w K mg base N qual (zah st) ad cdv A outer s H E).nox (zbc st) (d.body call)
theorem zm2 {fa : Fa} {K : PySem.W.Frag} {μ : Mu} {H : Hp} {N : List Str} {ds : List D} {vs : List V} (h : za0 fa K μ H ds vs) : zbr fa K μ H (L2.start N vs) (ds.map some ++ List.replicate (N.length - ds.length) none) := by
  have hl := h.length
  refine ⟨by unfold L2.start; simp [hl], fun i d e => ?_⟩
  by_cases hi : i < ds.length
  · rw [List.getElem?_append_left (by simpa using hi), List.getElem?_map] at e
    cases e1 : ds[i]? with
    | none => rw [e1] at e; cases e
    | some d' =>
      rw [e1] at e
      cases e
      obtain ⟨v, hv, rv⟩ := h.get e1
      refine ⟨v, ?_, rv⟩
      unfold L2.start
      rw [List.getElem?_append_left (by simp; omega), List.getElem?_map, hv]
      rfl
  · rw [List.getElem?_append_right (by simp; omega), List.getElem?_replicate] at e
    split at e <;> cases e
theorem zpt {fa : Fa} {P : Program} {w : World} {K : PySem.W.Frag} {mg : Str -> Option Value} {base : Heap} {Pg : Nat -> Option Df} (h : ∀ f d, Pg f = some d -> zn8 fa P w K mg base f d) : ∀ (n f : Nat), zfp fa P w K mg base n f (zay Pg n f)
  | 0, f => .inl fun _ _ => rfl
  | n + 1, f => by
    have ih := zpt h n
    cases e : Pg f with
    | none => exact .inl fun ds M => by show (match Pg f with | none => Res.bad | some d => zg2 (zay Pg n) d ds M) = Res.bad; rw [e]
    | some d =>
      have eq : ∀ ds M, zay Pg (n + 1) f ds M = zg2 (zay Pg n) d ds M := fun ds M => by show (match Pg f with | none => Res.bad | some d => zg2 (zay Pg n) d ds M) = _; rw [e]
      obtain ⟨ad, fd, ps, N, st, x, qual, h1, F, hb, S, hp, hs, hbody⟩ := (h f d e).ex
      refine .inr ⟨ad, fd, ps, h1, F.kp, hb, fun ds M hl => ?_, ?_⟩
      · rw [eq]; unfold zg2; rw [if_neg (by rw [hp]; exact hl)]
      · refine F.ok S (fun vs H Q E hsp => hsp.1) fun cdv A outer s H vs Q E hr hsp => ⟨_, hbody (zay Pg n) n cdv A outer s H E ih hr, ?_⟩
        obtain ⟨hl, μ, M, ds, hM, hr, hq⟩ := hsp
        rw [eq] at hq
        unfold zg2 at hq
        split at hq
        · obtain ⟨fl, M1, e1, q1⟩ := zbd hq
          refine ⟨μ, _, M, zm2 hr, hM, ?_⟩
          rw [<- hs, e1]
          cases fl with
          | next ρ' =>
            have q1 : zbs fa K μ H Q .non M1 := q1
            exact fun σ' H' μ' x' e' m' => q1 .non H' μ' x' m' rfl
          | ret d => exact q1
        · exact hq.elim
end LD
namespace LD
open PySem PySem.Spec PyProof.Rows L2
def zks (P : Params) (e : DictEntry) (kv : Str × Addr) : Prop := ∃ t, e = ⟨PyData.keyHash P kv.1, .str kv.1 t, .ref kv.2⟩
structure zgg (K : PySem.W.Frag) (P : Params) (a : Addr) (kvs : List (Str × Addr)) : Prop where
  ex : ∃ (es : Array DictEntry) (n : Nat), K.lookup a = some { cls := .type "dict", data := .dict es n } /\ Paired (zks P) es.toList kvs
  nd : (kvs.map (·.1)).Nodup
  ns : (a == sysModules) = false
def kvV (kvs : List (Str × Addr)) : List (Key × Value) := kvs.map fun kv => (Sum.inr kv.1, .ref kv.2)
theorem zpm {P : Params} : ∀ {es : List DictEntry} {kvs : List (Str × Addr)}, Paired (zks P) es kvs -> ∀ e ∈ es, ∃ x t, e.key = .str x t /\ e.hash = PyData.keyHash P x
  | _, _, .nil, e, h => nomatch h
  | _, _, .cons r t, e, h => by
    rcases List.mem_cons.mp h with z | z
    · subst z; obtain ⟨t, rfl⟩ := r; exact ⟨_, t, rfl, rfl⟩
    · exact zpm t e z
theorem zlu {prog : Program} {w : World} : ∀ {es : List DictEntry} {kvs : List (Str × Addr)}, Paired (zks w.params) es kvs -> Pairs (zig prog w) es (kvV kvs)
  | _, _, .nil => .nil
  | e :: es, kv :: kvs, .cons r t => by
    obtain ⟨u, rfl⟩ := r
    exact Pairs.cons (kv := ((Sum.inr kv.1 : Key), Value.ref kv.2)) (zhv kv.1 u) rfl (zlu t)
theorem zpe {X : Cx} {pins : List (Addr × Obj)} {σ : L2.St} {H : Hp} {s : Shared} {a : Addr} {kvs : List (Str × Addr)} (I : Inv X pins σ H s) (h : zgg X.K X.w.params a kvs) : s.heap.DictOf (zig X.prog X.w) a (kvV kvs) := by
  obtain ⟨es, n, lk, pr⟩ := h.ex
  refine ⟨_, es, n, I.kIn _ _ lk, ⟨rfl, rfl, rfl⟩, rfl, fun e he => ?_, zlu pr, ?_⟩
  · obtain ⟨x, t, e1, e2⟩ := zpm pr e (by simpa using he)
    exact ⟨Sum.inr x, by rw [e1]; exact zhv x t, e2⟩
  · have e : (kvV kvs).map (·.1) = (kvs.map (·.1)).map Sum.inr := by unfold kvV; simp
    rw [e]
    exact List.Pairwise.map _ (fun a b (n : a ≠ b) z => n (Sum.inr.inj z)) h.nd
theorem ztp (kvs : List (Str × Addr)) (k : Str) : valueAt (kvV kvs) (Sum.inr k : Key) = (kvs.lookup k).map Value.ref := by
  induction kvs with
  | nil => rfl
  | cons kv r ih =>
    unfold valueAt kvV at ih ⊢
    rw [List.map_cons, List.find?_cons, List.lookup_cons]
    by_cases e : kv.1 = k
    · subst e; simp
    · have e2 : decide ((Sum.inr kv.1 : Key) = Sum.inr k) = false := decide_eq_false fun z => e (Sum.inr.inj z)
      have e3 : (k == kv.1) = false := beq_eq_false_iff_ne.mpr (Ne.symm e)
      rw [e2, e3]
      exact ih
def zej (fa : Fa) (kvs : List (Str × Addr)) (fs : List (Str × Nat)) : Prop := Paired (fun (p : Str × Addr) (q : Str × Nat) => p.1 = q.1 /\ fa q.2 = some p.2) kvs fs
theorem zej.look {fa : Fa} {k : Str} : ∀ {kvs : List (Str × Addr)} {fs : List (Str × Nat)}, zej fa kvs fs -> (fs.lookup k = none /\ kvs.lookup k = none) \/ ∃ f ad, fs.lookup k = some f /\ kvs.lookup k = some ad /\ fa f = some ad
  | _, _, .nil => .inl ⟨rfl, rfl⟩
  | (x, a) :: r, (y, f) :: t, .cons ⟨e1, e2⟩ q => by
    have e1 : x = y := e1
    subst e1
    rw [List.lookup_cons, List.lookup_cons]
    cases e : k == x with
    | true => exact .inr ⟨f, a, rfl, rfl, e2⟩
    | false => exact zej.look q
def ziv (fs : List (Str × Nat)) (i : GE) : GE := fun ρ M => (i ρ M).bind fun d M => match d with
  | .str k => ofO M ((fs.lookup k).map D.fn)
  | _ => .bad
def ziu (fs : List (Str × Nat)) (i : GE) : GE := fun ρ M => (i ρ M).bind fun d M => match d with
  | .str k => .ok (.bl (!(fs.lookup k).isSome)) M
  | _ => .bad
section
variable {fa : Fa} {X : Cx} {a b : PySem.Expr} {ga gb : GE} {pos p : Pos} {ad : Addr} {kvs : List (Str × Addr)} {fs : List (Str × Nat)} {x : Str}
theorem zvp (hd : zgg X.K X.w.params ad kvs) : IxR X (fun x y H Q => ∃ k v, x = .ref ad /\ y = .str k /\ kvs.lookup k = some v /\ Q (.ref v) H) := by
  intro value slice pins s σ H x y v u Q I rx ry h hs
  obtain ⟨k, c, rfl, rfl, hk, q⟩ := h
  cases rx
  obtain ⟨t, rfl⟩ := ry
  have dd := zpe I hd
  have hT : s.TypeIs (.ref ad) "dict" := let ⟨o, _, _, ho, ⟨hc, _⟩, _⟩ := dd; ⟨o, ho, hc⟩
  refine tail_any hT PySem.F.slot_dict_getitem.lookup (wpAny_getItem_of (k := (Sum.inr k : Key)) (zhv k t) dd.mapOf (v := .ref c) ?_ ?_) hs
  · rw [ztp, hk]; rfl
  · exact ⟨.ref c, H, I.tok _, rfl, q⟩
theorem zvb (hd : zgg X.K X.w.params ad kvs) : OpR X (compareOp .NotIn) (fun x y H Q => ∃ k, x = .str k /\ y = .ref ad /\ Q (.bl (!(kvs.lookup k).isSome)) H) := by
  intro pins s σ H x y v u Q I rx ry h
  obtain ⟨k, rfl, rfl, q⟩ := h
  obtain ⟨t, rfl⟩ := rx
  cases ry
  have dd := zpe I hd
  refine wpAny_notIn_of (k := (Sum.inr k : Key)) (zhv k t) hd.ns dd.mapOf ?_
  rw [ztp, Option.isSome_map]
  exact ⟨.bl _, H, I.tok _, rfl, q⟩
theorem r_dget (hd : zgg X.K X.w.params ad kvs) (ho : zej fa kvs fs) (hg : Gl X x) (hm : X.mg x = some (.ref ad)) (hdb : (x == ("__debug__" : Str)) = false) (hb : DE fa X b gb) (hs : zgr b) : DE fa X (.Subscript (.Name x p) b pos) (ziv fs gb) :=
  zc0 (pe_ix (zvp hd) (zmb (v := .ref ad) hg hm rfl hdb) hb hs) fun σ H Q ⟨μ, ρ, M, hE, hM, h⟩ => t1 hE hM h fun d M1 v H1 μ1 x1 hE1 hM1 r1 h1 => by
    cases d with
    | str k =>
      obtain ⟨d, e, q⟩ := zju h1
      rcases ho.look (k := k) with ⟨e1, _⟩ | ⟨f, c, e1, e2, e3⟩
      · rw [e1] at e; cases e
      · rw [e1] at e
        cases e
        exact ⟨k, c, rfl, r1, e2, q (.ref c) H1 μ1 x1 hM1 ⟨c, rfl, e3⟩⟩
    | _ => exact h1.elim
theorem zve {d : D} {M1 : Mem} {P : D -> Mem -> Prop} (h : okE (match d with | .str k => Res.ok (.bl (!(fs.lookup k).isSome)) M1 | _ => .bad) P) : ∃ k, d = .str k /\ P (.bl (!(fs.lookup k).isSome)) M1 := by
  cases d with
  | str k => exact ⟨k, rfl, h⟩
  | _ => exact h.elim
theorem zvt (ho : zej fa kvs fs) (k : Str) : (kvs.lookup k).isSome = (fs.lookup k).isSome := by
  rcases ho.look (k := k) with ⟨e1, e2⟩ | ⟨f, c, e1, e2, _⟩ <;> rw [e1, e2] <;> rfl
theorem i_dnot (ho : zej fa kvs fs) (σ : L2.St) (H : Hp) (Q : VK) (h : tE fa X.K (ziu fs ga) σ H Q) : tOp (fun x y H Q => ∃ k, x = .str k /\ y = .ref ad /\ Q (.bl (!(kvs.lookup k).isSome)) H) (tE fa X.K ga) (tC (.ref ad)) σ H Q := by
  obtain ⟨μ, ρ, M, hE, hM, h⟩ := h
  refine t1 hE hM h fun d M1 v H1 μ1 x1 hE1 hM1 r1 h1 => ?_
  obtain ⟨k, rfl, q⟩ := zve h1
  refine ⟨k, r1, rfl, ?_⟩
  rw [zvt ho]
  exact q (.bl _) H1 μ1 x1 hM1 rfl
theorem q_dnot (hd : zgg X.K X.w.params ad kvs) (ho : zej fa kvs fs) (hg : Gl X x) (hm : X.mg x = some (.ref ad)) (hdb : (x == ("__debug__" : Str)) = false) (ha : DE fa X a ga) (hmk : behindInMarks .NotIn (.Name x p) = false) : DT fa X (.Compare a [.NotIn] [.Name x p] pos) (zar (ziu fs ga)) :=
  zif (zma (zvb hd) ha (zmb (v := .ref ad) hg hm rfl hdb) hmk) fun σ H Q h => by
    refine i_dnot ho σ H _ ?_
    obtain ⟨μ, ρ, M, hE, hM, h⟩ := h
    obtain ⟨z, M3, e, q⟩ := zbd h
    refine ⟨μ, ρ, M, hE, hM, ?_⟩
    rw [e]
    have hz : ∃ k, z = .bl k := by
      obtain ⟨d, M1, e1, e2⟩ := zd9 e
      cases d <;> first | (cases e2; exact ⟨_, rfl⟩) | cases e2
    obtain ⟨k, rfl⟩ := hz
    intro v H' μ' x' m' r'
    obtain rfl : v = .bl k := r'
    exact ⟨k, rfl, q H' μ' x' m'⟩
def zjf (m : Bool) (a : GE) : GE := fun ρ M => (a ρ M).bind fun x M => match x with
  | .int n => if -(2 ^ 62) ≤ n /\ n < 2 ^ 20 then zb1 m ((List.range n.toNat).map fun (k : Nat) => D.int (k : Int)) M else .bad
  | _ => .bad
theorem zru : ∀ (n : Nat) (its : List Value), its.length = n -> (∀ (i : Nat) (v : Value), its[i]? = some v -> ∃ t, v = .int (i : Int) t) -> Vals ((List.range n).map fun (k : Nat) => V.int (k : Int)) its := by
  intro n its hl h
  have key : ∀ (k : Nat) (its : List Value), (∀ (i : Nat) (v : Value), its[i]? = some v -> ∃ t, v = .int ((k + i : Nat) : Int) t) -> Vals ((List.range its.length).map fun (j : Nat) => V.int ((k + j : Nat) : Int)) its := by
    intro k its
    induction its generalizing k with
    | nil => intro _; exact .nil
    | cons v r ih =>
      intro h
      rw [List.length_cons, List.range_succ_eq_map, List.map_cons, List.map_map]
      refine .cons (h 0 v rfl) ?_
      have := ih (k + 1) fun i u e => by
        have := h (i + 1) u (by simpa using e)
        rw [show k + 1 + i = k + (i + 1) by omega]; exact this
      refine cast (congrArg (fun f => Vals ((List.range r.length).map f) r) ?_) this
      funext j
      show V.int _ = V.int _
      congr 2
      omega
  have := key 0 its fun i v e => by rw [Nat.zero_add]; exact h i v e
  rw [hl] at this
  simpa using this
theorem zxf (m : Bool) {p1 p2 pos2 : Pos} (hc : X.calm = true) (ha : DE fa X a ga) (hgl : Gl X "list") (hml : X.mg "list" = none) (hg : Gl X "range") (hm : X.mg "range" = none) (hs : starEach [a] X.env = [(false, eval a X.env)])
    (hs2 : starEach [.Call (.Name "range" p2) [a] [] pos2] X.env = [(false, eval (.Call (.Name "range" p2) [a] [] pos2) X.env)]) :
    DE fa X (.Call (.Name "list" p1) [.Call (.Name "range" p2) [a] [] pos2] [] pos) (zjf m ga) := by
  intro pins s σ H Q I ⟨μ, ρ, M, hE, hM, h⟩
  obtain ⟨x, M1, e, q⟩ := zbd h
  have key : ∀ n, x = .int n -> okE (if -(2 ^ 62) ≤ n /\ n < 2 ^ 20 then zb1 m ((List.range n.toNat).map fun (k : Nat) => D.int (k : Int)) M1 else .bad) (zbs fa X.K μ H Q) ->
      wpAny (model X.prog X.w) X.A (eval (.Call (.Name "list" p1) [.Call (.Name "range" p2) [a] [] pos2] [] pos) X.env) (EP X pins σ Q) X.xe s := fun n en q' => by
    subst en
    by_cases c : -(2 ^ 62) ≤ n /\ n < 2 ^ 20
    · rw [if_pos c] at q'
      refine Call_ (zgy I hgl hml (by decide +kernel : bootBuiltins "list" = some (.type "list")) (PyProof.Rows.callWith_type1 ?_ hs2 rfl))
      rw [hs2]
      refine Calls.spliced_cons ?_
      refine Call_ (zgy I hg hm boot_range (PyProof.Rows.callWith_type1 (thn (zft ha zho hs pos2 pins s σ H (fun vs H1 => ∃ μ1, vs = [.int n] /\ Ext μ H μ1 H1 /\ RelM fa X.K μ1 H1 M1) I ⟨μ, ρ, M, hE, hM, ?_⟩) fun us s1 ⟨vs, H1, I1, r1, μ1, ev, x1, m1⟩ => ?_) hs rfl))
      · rw [e]
        intro v H1 μ1 x1 m1 r1
        obtain rfl : v = .int n := r1
        exact ⟨μ1, rfl, x1, m1⟩
      subst ev
      cases r1 with
      | cons r rr =>
        cases rr
        obtain ⟨t, rfl⟩ := r
        refine call_range_1 ?_
        refine Calls.spliced_nil ?_
        refine call_list_range (n := n.toNat) (I.ok.hd hc) (IsRange.new ..) (small_one (by omega) (by omega) (by omega) (by omega)) (by rw [rangeSize_one]; split <;> omega) (by omega) fun h' tk acc' c' kp eS its => ?_
        obtain ⟨hsz, hit⟩ := its
        have I2 : Inv X pins σ H1 { s1 with heap := s1.heap.push { cls := .type "range", data := .fields #[.int 0 s1.toks, .int n t, .int 1 (s1.toks + 1)] }, toks := s1.toks + 1 + 1 } := I1.kept fun b o e => Heap.get?_push_of_some _ e
        have hv : Vals ((List.range n.toNat).map fun (k : Nat) => V.int (k : Int)) acc'.toList := zru n.toNat acc'.toList (by simpa using hsz) fun i v e => by
          obtain ⟨u, z⟩ := hit i v (by simpa using e)
          exact ⟨u, by rw [z]; simp⟩
        have rl : za0 fa X.K μ1 H1 ((List.range n.toNat).map fun (k : Nat) => D.int (k : Int)) ((List.range n.toNat).map fun (k : Nat) => V.int (k : Int)) := by
          have := za0.ints (fa := fa) (K := X.K) (μ := μ1) (H := H1) ((List.range n.toNat).map fun (k : Nat) => (k : Int))
          simpa [List.map_map, Function.comp_def] using this
        obtain ⟨c1, k1⟩ := zf3 m1 rl (okW q' x1)
        refine ⟨.ref _, _, I2.laid (t' := tk) (o := .lst ((List.range n.toNat).map fun (k : Nat) => V.int (k : Int))) kp (Nat.le_refl _) ⟨?_, acc'.toList, c', hv, by simpa using eS⟩, rfl, k1 _ (I2.hok.fresh (Nat.le_refl _))⟩
        rw [rl.length, <- zes]; exact c1
    · rw [if_neg c] at q'; exact q'.elim
  cases x with
  | int n => exact key n rfl q
  | _ => exact q.elim
end
end LD
namespace LD
open PySem PySem.Spec PyProof.Rows L2
def zqw (bn N : List Str) (sc scope : Scope) : Bool :=
  scope.names.all (fun y => y.2 != .cell && (y.2 != .local || scope.names.lookup y.1 == some .local) && (y.2 != .free || sc.names.lookup y.1 == some .cell || sc.names.lookup y.1 == some .free)) &&
  bn.length == N.length && (bn.zip N).all fun p => (p.1 == p.2 && scope.names.lookup p.2 != some .local) || scope.names.lookup p.1 == none
theorem zla {α β : Type} {R : α -> β -> Prop} : ∀ {l : List α} {r : List β}, l.length = r.length -> (∀ p ∈ l.zip r, R p.1 p.2) -> Paired R l r
  | [], [], _, _ => .nil
  | a :: l, b :: r, h, g => .cons (g (a, b) List.mem_cons_self) (zla (by simpa using h) fun p hp => g p (List.mem_cons_of_mem _ hp))
  | [], _ :: _, h, _ => by cases h
  | _ :: _, [], h, _ => by cases h
theorem zc6 {X : Cx} {own bn N : List Str} {sc scope : Scope} (hk : scope.kind = .function) (hs : X.env.scope = sc) (hN : X.N = N) (h : zqw bn N sc scope = true) : zeo X own bn scope := by
  unfold zqw at h
  rw [Bool.and_eq_true, Bool.and_eq_true, List.all_eq_true, List.all_eq_true] at h
  obtain ⟨⟨h1, hl⟩, h2⟩ := h
  refine ⟨hk, fun y hy => ?_, fun y hy e => ?_, fun y hy e => ?_, ?_⟩
  · have := h1 y hy
    simp only [Bool.and_eq_true] at this
    simpa using this.1.1
  · have := h1 y hy
    simp only [Bool.and_eq_true] at this
    have := this.1.2
    rw [e] at this
    simpa using this
  · have := h1 y hy
    simp only [Bool.and_eq_true] at this
    have := this.2
    rw [e] at this
    show X.env.scope.names.lookup y.1 = _ \/ X.env.scope.names.lookup y.1 = _
    rw [hs]
    simpa using this
  · rw [hN]
    refine zla (by simpa using hl) fun p hp => ?_
    have := h2 p hp
    simp only [Bool.or_eq_true, Bool.and_eq_true, beq_iff_eq, bne_iff_ne] at this
    exact this
section
variable {fa : Fa} {X : Cx} {elt tg iter c t2 i2 : PySem.Expr} {scope : Scope} {pos : Pos} {own bn : List Str} {t u : Tgt} {gw gw2 : GW} {ge : GE} {gc : GT}
theorem zkf {n : Nat} {l : List Nat} (h : l.all (· < n) = true) : ∀ i ∈ l, i < n := fun i hi => by
  have := List.all_eq_true.mp h i hi
  simpa using this
theorem zxi (m : Bool) (S : zeo X own bn scope) (hc : X.calm = true) (hi : DI fa X tg iter gw) (pg : ∀ cl C fp s H, PG (zcn X own bn scope cl C fp s H) tg (gT fa X.K t)) (he : ∀ cl C fp s H, DE fa (zcn X own bn scope cl C fp s H) elt ge)
    (hn : (slots t).all (· < own.length) = true) (hs : ∀ x, foldedSetIterable iter X.env x = pure x) : DE fa X (.ListComp elt [⟨tg, iter, [], 0⟩] scope pos) (zb7 m own.length t gw (zci ge)) :=
  ztv m (W := []) (body := fun a env => eval elt env >>= fun x => call (.builtin "list.append") [.ref a, x] >>= fun _ => pure ()) S hc hi ⟨pg, fun cl C fp s H a => zpn (he cl C fp s H)⟩ (fun it a env => zum elt tg iter [] scope pos (.ref it) (.ref a) env) (fun i h => nomatch h) (by simpa using zkf hn) hs
theorem zu2 (m : Bool) (S : zeo X own bn scope) (hc : X.calm = true) (hi : DI fa X tg iter gw) (pg : ∀ cl C fp s H, PG (zcn X own bn scope cl C fp s H) tg (gT fa X.K t)) (ht : ∀ cl C fp s H, DT fa (zcn X own bn scope cl C fp s H) c gc) (he : ∀ cl C fp s H, DE fa (zcn X own bn scope cl C fp s H) elt ge)
    (hn : (slots t).all (· < own.length) = true) (hs : ∀ x, foldedSetIterable iter X.env x = pure x) : DE fa X (.ListComp elt [⟨tg, iter, [c], 0⟩] scope pos) (zb7 m own.length t gw (gIf gc (zci ge))) :=
  ztv m (W := []) (body := fun a env => isTrue c env (eval c env) >>= fun ok => if ok = true then (eval elt env >>= fun x => call (.builtin "list.append") [.ref a, x] >>= fun _ => pure ()) else pure ()) S hc hi ⟨pg, fun cl C fp s H a => db_if (ht cl C fp s H) (zpn (he cl C fp s H))⟩ (fun it a env => turn_if elt tg iter c scope pos (.ref it) (.ref a) env) (fun i h => nomatch h) (by simpa using zkf hn) hs
variable {i : Nat} {y : Str} {py spos : Pos}
theorem zux (m : Bool) (S : zeo X own bn scope) (hc : X.calm = true) (hi : DI fa X tg iter gw) (pg : ∀ cl C fp s H, PG (zcn X own bn scope cl C fp s H) tg (gT fa X.K t)) (ht : ∀ cl C fp s H, DT fa (zcn X own bn scope cl C fp s H) c gc) (he : ∀ cl C fp s H, DE fa (zcn X own bn scope cl C fp s H) elt ge)
    (hn : (slots t).all (· < own.length) = true) (hs : ∀ x, foldedSetIterable iter X.env x = pure x) (hN : X.N.Nodup) (hy : X.N[i]? = some y) (hl : X.env.scope.names.lookup y = some .local)
    (hsw : swapsWith (.ListComp elt [⟨tg, iter, [c], 0⟩] scope pos) (some (.Name y py)) spos.line X.env = pure true) : DS fa X (.Assign [.Name y py] (.ListComp elt [⟨tg, iter, [c], 0⟩] scope pos) spos) (zax (.one i) (zb7 m own.length t gw (gIf gc (zci ge)))) :=
  s_comp m (W := []) (body := fun a env => isTrue c env (eval c env) >>= fun ok => if ok = true then (eval elt env >>= fun x => call (.builtin "list.append") [.ref a, x] >>= fun _ => pure ()) else pure ()) S hc hi ⟨pg, fun cl C fp s H a => db_if (ht cl C fp s H) (zpn (he cl C fp s H))⟩ (fun it a env => turn_if elt tg iter c scope pos (.ref it) (.ref a) env) (fun i h => nomatch h) (by simpa using zkf hn) hs hN hy hl hsw
theorem zxg {x : Str} {i : Int} (hg : Gl X x) (hm : ∃ t, X.mg x = some (.int i t)) (hd : (x == ("__debug__" : Str)) = false) : DE fa X (.Name x pos) (gC (.int i)) := let ⟨_, h⟩ := hm; r_gint hg h hd
theorem zxh {x : Str} {b : PySem.Expr} {gb : GE} {p : Pos} {fs : List (Str × Nat)} (h : ∃ ad kvs, X.mg x = some (.ref ad) /\ zgg X.K X.w.params ad kvs /\ zej fa kvs fs) (hg : Gl X x) (hdb : (x == ("__debug__" : Str)) = false) (hb : DE fa X b gb) (hs : zgr b) : DE fa X (.Subscript (.Name x p) b pos) (ziv fs gb) :=
  let ⟨_, _, h1, h2, h3⟩ := h; r_dget h2 h3 hg h1 hdb hb hs
theorem zxm {x : Str} {a : PySem.Expr} {ga : GE} {p : Pos} {fs : List (Str × Nat)} (h : ∃ ad kvs, X.mg x = some (.ref ad) /\ zgg X.K X.w.params ad kvs /\ zej fa kvs fs) (hg : Gl X x) (hdb : (x == ("__debug__" : Str)) = false) (ha : DE fa X a ga) (hmk : behindInMarks .NotIn (.Name x p) = false) : DT fa X (.Compare a [.NotIn] [.Name x p] pos) (zar (ziu fs ga)) :=
  let ⟨_, _, h1, h2, h3⟩ := h; q_dnot h2 h3 hg h1 hdb ha hmk
end
end LD
namespace LD
open PySem PySem.Spec PyProof.Rows L2
theorem zg8 {α β : Type} {f g : α -> Option β} : ∀ {l : List α}, (∀ x ∈ l, f x = g x) -> l.filterMap f = l.filterMap g
  | [], _ => rfl
  | a :: l, h => by
    rw [List.filterMap_cons, List.filterMap_cons, h a List.mem_cons_self, zg8 (l := l) fun x hx => h x (List.mem_cons_of_mem _ hx)]
theorem zm4 (n : Nat) (xs : List Value) (h : xs.length = n) : (List.range n).filterMap (fun (k : Nat) => xs[n - 1 - k]?) = xs.reverse := by
  have e : ∀ k ∈ List.range n, xs[n - 1 - k]? = some (xs.reverse.getD k .none) := fun k hk => by
    have hk := List.mem_range.mp hk
    rw [List.getD_eq_getElem?_getD, List.getElem?_reverse (by omega), h, List.getElem?_eq_getElem (by omega)]
    simp
  have : (List.range n).filterMap (fun (k : Nat) => xs[n - 1 - k]?) = (List.range n).map fun k => xs.reverse.getD k .none := by
    rw [zg8 (g := fun k => some (xs.reverse.getD k .none)) e]
    simp
  rw [this]
  refine List.ext_getElem? fun i => ?_
  rw [List.getElem?_map]
  by_cases hi : i < n
  · rw [List.getElem?_range hi]
    show some (xs.reverse.getD i .none) = _
    rw [List.getD_eq_getElem?_getD, List.getElem?_eq_getElem (show i < xs.reverse.length by simp; omega)]
    simp
  · rw [List.getElem?_eq_none (by simp; omega), List.getElem?_eq_none (by simp; omega)]
    rfl
theorem znh (its : List Value) : slicePick its.toArray none none (some (-1)) = its.reverse.toArray := by
  unfold slicePick sliceBounds sliceRange
  simp only [Option.getD_some, List.size_toArray]
  have e1 : ¬ ((-1 : Int) > 0) := by decide
  simp only [e1, if_false]
  have e2 : (if (its.length : Int) - 1 > -1 then ((its.length : Int) - 1 - -1 - -1 - 1) / (- -1) else 0).toNat = its.length := by
    split
    · simp
    · omega
  rw [e2, List.filterMap_map, <- zm4 its.length its rfl]
  congr 1
  refine zg8 fun k hk => ?_
  have hk := List.mem_range.mp hk
  have e3 : ((its.length : Int) - 1 + -1 * (k : Int)).toNat = its.length - 1 - k := by omega
  show its.toArray[((its.length : Int) - 1 + -1 * (k : Int)).toNat]? = _
  rw [e3]
  simp
section
variable {prog : Program} {w : World} {A : Around} {E : Value -> Shared -> Prop} {s : Shared}
theorem zj8 {t sl : Addr} {items : Array Value} {k : Tok} {Q : Value -> Shared -> Prop} (ht : IsTup s.heap t items) (hs : s.heap.IsSliceOf sl .none .none (.int (-1) k))
    (h : Q (.ref s.heap.objs.size) { s with heap := s.heap.push { cls := .type "tuple", data := .seq items.toList.reverse.toArray } })
    (hsz : items.size ≤ sizeLine) : wpAny (model prog w) A (getItem (.ref t) (.ref sl)) Q E s := by
  have htake : sizeOk (.seq items.toList.reverse.toArray) := by
    show items.toList.reverse.toArray.size ≤ sizeLine
    simpa using hsz
  obtain ⟨os, hos, hcs, hds⟩ := id hs
  have hTs : s.TypeIs (.ref sl) "slice" := ⟨os, hos, hcs⟩
  unfold getItem
  try with_reducible refine wpAny_holding ?_
  first | refine wpAny_bind (wpAny_pure ?_) | skip
  refine wpAny_bind (wpAny_sequenceKey ht.typeIs (by decide) ?_)
  refine wpAny_bind (wpAny_callSpecial?_slot (name := Str.ofString "__getitem__") ht.typeIs PyProof.Rows.slot_tuple_getitem
    (wpAny_call_entry PyProof.Rows.slot_tuple_getitem ht.typeIs entry_tuple_getitem ?_ (args_tuple_getitem _ _)))
  show wpAny _ _ (Builtin.Tuple.tupleItemsOf (.ref t) >>= _) _ _ s
  refine wpAny_bind (tupleItemsOf_ ht ?_)
  refine wpAny_bind (wpAny_typeOf hTs ?_)
  rw [if_pos (by decide)]
  unfold Builtin.Slice.sliceApplied Builtin.Slice.sliceFields
  refine wpAny_bind (wpAny_bind (wpAny_bind (wpAny_field hos hds (x := .none) rfl (wpAny_bind (wpAny_field hos hds (x := .none) rfl (wpAny_bind (wpAny_field hos hds (x := .int (-1) k) rfl (wpAny_pure ?_))))))))
  refine wpAny_bind (slicePart_int ?_)
  show wpAny _ _ (if ((-1 : Int) == 0) = true then _ else _) _ _ s
  rw [if_neg (by decide)]
  refine wpAny_bind (slicePart_none (wpAny_bind (slicePart_none (wpAny_bind (wpAny_pure ?_)))))
  have ea : Builtin.Slice.sliceAdjust none none (-1) (items.size : Int) = ((items.size : Int) - 1, -1) := by simp [Builtin.Slice.sliceAdjust]
  have ep : Builtin.Slice.slicePlaces ((items.size : Int) - 1) (-1) (-1) = items.size := by
    unfold Builtin.Slice.slicePlaces
    rw [if_neg (by decide)]
    split
    · simp
    · omega
  show wpAny _ _ (match Builtin.Slice.sliceAdjust none none (-1) (items.size : Int) with | (lo, hi) => pure (lo, (-1 : Int), Builtin.Slice.slicePlaces lo hi (-1))) _ _ s
  rw [ea]
  show wpAny _ _ (pure ((items.size : Int) - 1, (-1 : Int), Builtin.Slice.slicePlaces ((items.size : Int) - 1) (-1) (-1))) _ _ s
  rw [ep]
  refine wpAny_pure ?_
  have hno : ¬ ((((items.size : Int) - 1) == 0 && (-1 : Int) == 1 && items.size == items.size) = true) := by simp
  show wpAny _ _ (if (((items.size : Int) - 1) == 0 && (-1 : Int) == 1 && items.size == items.size) = true then _ else _) _ _ s
  rw [if_neg hno]
  have pick : ((List.range items.size).filterMap fun (m : Nat) => items[(((items.size : Int) - 1) + (m : Int) * -1).toNat]?).toArray = items.toList.reverse.toArray := by
    rw [<- zm4 items.size items.toList (by simp)]
    congr 1
    refine zg8 fun m hm => ?_
    have hm := List.mem_range.mp hm
    have e3 : ((items.size : Int) - 1 + (m : Int) * -1).toNat = items.size - 1 - m := by omega
    rw [e3]
    simp
  rw [pick]
  first
    | exact wpAny_bind (m := Builtin.Tuple.tupleExact _) (wpAny_newObj_type (wpAny_pure ⟨_, rfl, wpAny_pure h⟩) htake)
    | exact wpAny_bind (m := Builtin.Tuple.tupleExact _) (wpAny_newObj_type (wpAny_bind (wpAny_pure (wpAny_pure ⟨_, rfl, wpAny_pure h⟩))) htake)
    | exact wpAny_bind (wpAny_bind (m := Builtin.Tuple.tupleExact _) (wpAny_newObj_type (wpAny_pure (wpAny_pure ⟨_, rfl, wpAny_pure h⟩)) htake))
    | exact wpAny_bind (wpAny_bind (m := Builtin.Tuple.tupleExact _) (wpAny_newObj_type (wpAny_pure ⟨_, rfl, wpAny_pure h⟩) htake))
end
section
variable {fa : Fa} {X : Cx} {a st : PySem.Expr} {ga : GE} {pos p2 : Pos}
def revD (m : Bool) (x : D) (M : Mem) : Res D := match x with
  | .tup xs => .ok (.tup xs.reverse) M
  | x => match rdD M x with
    | some xs => zb1 m xs.reverse M
    | none => .bad
def gRev (m : Bool) (a : GE) : GE := fun ρ M => (a ρ M).bind fun x M => revD m x M
def rRev (K : PySem.W.Frag) : V -> Hp -> VK -> Prop := fun x H Q => ∃ a xs, x = .ref a /\ ((SqL K H a xs /\ ∀ p, H p = none -> Q (.ref p) (upd H p (.lst xs.reverse))) \/ (SqT K H a xs /\ ∀ p, H p = none -> Q (.ref p) (upd H p (.tup xs.reverse))))
theorem zke : ∀ {xs : List V} {us : List Value}, Vals xs us -> Vals xs.reverse us.reverse
  | _, _, .nil => .nil
  | _, _, .cons p r => by
    rw [List.reverse_cons, List.reverse_cons]
    exact (zke r).append (.cons p .nil)
theorem pe_rev {ta : TE} (ha : PE X a ta) {ts : TE} (hst : PE X st ts) :
    PE X (.Subscript a (.Slice none none (some st) p2) pos) (fun σ H Q => ta σ H fun x H1 => ts σ H1 fun y H2 => y = .int (-1) /\ rRev X.K x H2 Q) := by
  intro pins s σ H Q I h
  refine Subscript_ (thn (ha pins s σ H _ I h) fun v s1 ⟨x, H1, I1, r1, q1⟩ => ?_)
  refine wpAny_Slice ?_
  rw [evalPart_none]
  refine wpAny_pure ?_
  refine wpAny_pure ?_
  rw [evalPart_some]
  refine thn (hst pins s1 σ H1 _ I1 q1) fun vu s3 ⟨y, H3, I3, r3, ey, q3⟩ => ?_
  subst ey
  obtain ⟨k, rfl⟩ := r3
  have I4 : Inv X pins σ H3 { s3 with heap := s3.heap.push { cls := .type "slice", data := .fields #[.none, .none, .int (-1) k] } } := I3.kept (t' := s3.toks) fun b ob q => Heap.get?_push_of_some _ q
  have hsl : (s3.heap.push { cls := .type "slice", data := .fields #[.none, .none, .int (-1) k] }).IsSliceOf s3.heap.objs.size .none .none (.int (-1) k) := Heap.IsSliceOf.new ..
  obtain ⟨b, xs, rfl, q⟩ := q3
  cases r1
  have key : ∃ T id, typeLookup (.type T) "__getitem__" = pure (some (.builtin id)) /\ Shared.TypeIs { s3 with heap := s3.heap.push { cls := .type "slice", data := .fields #[.none, .none, .int (-1) k] } } (.ref b) T /\ wpAny (model X.prog X.w) X.A (getItem (.ref b) (.ref s3.heap.objs.size)) (EP X pins σ Q) X.xe { s3 with heap := s3.heap.push { cls := .type "slice", data := .fields #[.none, .none, .int (-1) k] } } := by
    rcases q with ⟨hx, q⟩ | ⟨hx, q⟩
    · obtain ⟨its, r, ht, hz⟩ := I4.list hx
      have hlen := r.length
      refine ⟨"list", _, slot_list_getitem.lookup, ht.isList.typeIs, ?_⟩
      refine wpAny_getItem_list_slice ht.isList hsl .none .none (.int (-1) k) (by decide) ?_ (by rw [List.size_toArray] <;> omega)
      rw [znh]
      refine ⟨.ref _, _, I4.laid (t' := s3.toks) (o := .lst xs.reverse) (fun b ob q => Heap.get?_push_of_some _ q) (Nat.le_refl _) ?_, rfl, q _ (I4.hok.fresh (Nat.le_refl _))⟩
      exact ⟨by simpa using hz, _, 0, zke r, Heap.get?_push_size _ rfl⟩
    · obtain ⟨its, r, ht, hz⟩ := I4.tuple hx
      have hlen := r.length
      refine ⟨"tuple", _, PyProof.Rows.slot_tuple_getitem.lookup, ht.typeIs, ?_⟩
      refine zj8 ht hsl ?_ (by rw [List.size_toArray, <- hlen]; exact hz)
      refine ⟨.ref _, _, I4.laid (t' := s3.toks) (o := .tup xs.reverse) (fun b ob q => Heap.get?_push_of_some _ q) (Nat.le_refl _) ?_, rfl, q _ (I4.hok.fresh (Nat.le_refl _))⟩
      exact ⟨by simpa using hz, _, zke r, IsTup.new _ _⟩
  obtain ⟨T, id, hT, ht, hg⟩ := key
  show wpAny (model X.prog X.w) X.A (subscriptTail a (.Slice none none (some st) p2) (.ref b) (.ref s3.heap.objs.size)) (EP X pins σ Q) X.xe { s3 with heap := s3.heap.push { cls := .type "slice", data := .fields #[.none, .none, .int (-1) k] } }
  exact tail_any (ops := [.ref b, .ref s3.heap.objs.size]) ht hT hg (by with_unfolding_all rfl)
theorem r_rev (m : Bool) {pc pu : Pos} {k : Nat} (ha : DE fa X a ga) : DE fa X (.Subscript a (.Slice none none (some (.UnaryOp .USub (.Constant (.int 1) k pc) pu)) p2) pos) (gRev m ga) :=
  zc0 (pe_rev ha (pe_un zsd zs2)) fun σ H Q ⟨μ, ρ, M, hE, hM, h⟩ => t1 hE hM h fun x M1 v H1 μ1 x1 hE1 hM1 r1 h1 => by
    refine ⟨1, rfl, rfl, ?_⟩
    have lst : ∀ (ds : List D) (b : Addr) (vs : List V), SqL X.K H1 b vs -> za0 fa X.K μ1 H1 ds vs -> okE (zb1 m ds.reverse M1) (zbs fa X.K μ H Q) -> rRev X.K (.ref b) H1 Q := fun ds b vs hs hr h1 => by
      obtain ⟨_, q⟩ := zf3 hM1 hr.reverse (okW h1 x1)
      exact ⟨b, vs, rfl, .inl ⟨hs, q⟩⟩
    cases x with
    | tup ds =>
      obtain ⟨b, vs, rfl, hs, hr⟩ := r1
      exact ⟨b, vs, rfl, .inr ⟨hs, zgk hM1 hr.reverse (zbs.ext h1 x1)⟩⟩
    | lst ds =>
      obtain ⟨b, vs, rfl, hs, hr⟩ := r1
      exact lst ds b vs (SqL.of hs.1) hr h1
    | frz ds =>
      obtain ⟨b, vs, rfl, hs, hr⟩ := r1
      exact lst ds b vs (hs.elim (fun ⟨o, z⟩ => .inl (.inr ⟨o, z⟩)) .inr) hr h1
    | cell k =>
      obtain ⟨b, rfl, hk⟩ := r1
      obtain ⟨ds, vs, e, hH, hr⟩ := hM1.mu_lt hk
      have h1 : okE (match M1[k]? with | some xs => zb1 m xs.reverse M1 | none => .bad) (zbs fa X.K μ H Q) := h1
      rw [e] at h1
      exact lst ds b vs (SqL.of hH) hr h1
    | _ => exact h1.elim
def sPar (i j : Nat) (gs : GA) : GS := fun ρ M => (gs ρ M).bind fun ds M => match ds with
  | [a, b] => .ok (.next ((ρ.set i (some a)).set j (some b))) M
  | _ => .bad
def gInt (a : GE) : GE := fun ρ M => (a ρ M).bind fun x M => match x with
  | .int i => .ok (.int i) M
  | .bl k => .ok (.int (if k then 1 else 0)) M
  | _ => .bad
end
end LD
namespace LD
open PySem PySem.Spec PyProof.Rows L2
theorem us1 {α : Type} {p : List α -> Prop} (h : ∀ a, p [a]) (us : List α) (hl : us.length = 1) : p us := by
  obtain ⟨a, rfl⟩ := List.length_eq_one_iff.mp hl; exact h a
theorem us2 {α : Type} {p : List α -> Prop} (h : ∀ a b, p [a, b]) : ∀ (us : List α) (hl : us.length = 2), p us
  | [a, b], _ => h a b
theorem us3 {α : Type} {p : List α -> Prop} (h : ∀ a b c, p [a, b, c]) : ∀ (us : List α) (hl : us.length = 3), p us
  | [a, b, c], _ => h a b c
theorem us4 {α : Type} {p : List α -> Prop} (h : ∀ a b c d, p [a, b, c, d]) : ∀ (us : List α) (hl : us.length = 4), p us
  | [a, b, c, d], _ => h a b c d
theorem mk_fn {K : PySem.W.Frag} {h : Heap} {mg : Str -> Option Value} {f : Addr} {x : Str} {st : PySem.Stmt} {oc : Value} {od an : Option Addr} {osl : Array (Option Value)} {kV doc pm cdv ct : Value} (X : K.In h) (G : h.Ns mainGlobals mg)
    (a : PySem.W.nsIn K mainGlobals x = some (some (.ref f))) (l : K.lookup f = some ⟨oc, od, .func (PySem.W.fnOf x x (zhc st) (zbc st) (zah st) .none kV doc pm an cdv ct), osl⟩)
    (c : PySem.W.codeIn K cdv x = true) (k : PySem.W.keepIn K (.ref f) = true) : ∃ f fd, mg x = some (.ref f) /\ Fun K x x st f fd := ⟨f, _, PySem.W.mg_of X G a, fun_mk l c k⟩
theorem zje {K : PySem.W.Frag} {h : Heap} {mg : Str -> Option Value} {x : Str} {i : Int} {t : Tok} (X : K.In h) (G : h.Ns mainGlobals mg) (a : PySem.W.nsIn K mainGlobals x = some (some (.int i t))) : ∃ t, mg x = some (.int i t) := ⟨t, PySem.W.mg_of X G a⟩
theorem zlk {K : PySem.W.Frag} {h : Heap} {mg : Str -> Option Value} {x : Str} {f : Addr} (X : K.In h) (G : h.Ns mainGlobals mg) (a : PySem.W.nsIn K mainGlobals x = some (some (.ref f))) : mg x = some (.ref f) := PySem.W.mg_of X G a
theorem zfi {K : PySem.W.Frag} {h : Heap} {mg : Str -> Option Value} {x : Str} (X : K.In h) (G : h.Ns mainGlobals mg) (a : PySem.W.nsIn K mainGlobals x = some none) : mg x = none := PySem.W.mg_none_of X G a
theorem kd_nil {P : Params} : Paired (zks P) [] [] := .nil
theorem zjw {P : Params} {x : Str} {t : Tok} {a : Addr} {es : List DictEntry} {kvs : List (Str × Addr)} (h : Paired (zks P) es kvs) : Paired (zks P) (⟨PyData.keyHash P x, .str x t, .ref a⟩ :: es) ((x, a) :: kvs) := .cons ⟨t, rfl⟩ h
def spLaw (K : PySem.W.Frag) : Sp := fun vs H Q _ => ∃ (a : Addr) (ns : List Int), vs = [.ref a] /\ SqL K H a (ns.map V.int) /\ Only H /\ ns.length ≤ 63 /\ ∀ H', Q (.bl true) H'
theorem law_fn {fa : Fa} {P : Program} {w : World} {K : PySem.W.Frag} {mg : Str -> Option Value} {base : Heap} {Pg : Nat -> Option Df} {n f : Nat} {ad : Addr} {d : Df} {fd : FuncData} {N : List Str} {st : PySem.Stmt} {x qual y : Str} (h : ∀ f d, Pg f = some d -> zn8 fa P w K mg base f d)
    (hl : ∀ ns : List Int, ns.length ≤ 63 -> ∃ M, zay Pg (n + 1) f [.frz (ns.map D.int)] [] = .ok (.bl true) M) (e : Pg f = some d) (F : Fun K x qual st ad fd) (S : zbj N [y] (zah st)) (hs : d.slots = N.length)
    (hbody : ∀ (call : Call) (n : Nat) (cdv : Value) (A : Around) (outer : List PySem.Env) (s : Shared) (H : Hp) (E : XK), (∀ f, zfp fa P w K mg base n f (call f)) -> zbk n (A.deeper (envOfC qual (zah st) s.heap.objs.size ad cdv)) ->
      DSs fa (zca CX0 P w K mg base N qual (zah st) ad cdv A outer s H E).nox (zbc st) (d.body call)) : zg4 P w K mg base CX0 (n + 1) ad fd [y] (spLaw K) := by
  have eq : ∀ ds M, zay Pg (n + 1) f ds M = zg2 (zay Pg n) d ds M := fun ds M => by show (match Pg f with | none => Res.bad | some d => zg2 (zay Pg n) d ds M) = _; rw [e]
  refine F.ok S (fun vs H Q E hsp => ?_) fun cdv A outer s H vs Q E hr hsp => ⟨_, hbody (zay Pg n) n cdv A outer s H E (zpt h n) hr, ?_⟩
  · obtain ⟨a, ns, rfl, _⟩ := hsp; rfl
  · obtain ⟨a, ns, rfl, hS, hO, hn, q⟩ := hsp
    obtain ⟨M', e'⟩ := hl ns hn
    rw [eq] at e'
    unfold zg2 at e'
    split at e'
    · obtain ⟨fl, M1, e1, q1⟩ := zd9 e'
      have rp : za0 fa K ⟨fun _ => none, []⟩ H [.frz (ns.map D.int)] [.ref a] := by
        refine ⟨.ref a, [], rfl, ⟨a, ns.map V.int, rfl, ?_, za0.ints ns⟩, rfl⟩
        rcases hS with (z | ⟨o, z⟩) | z
        · rcases hO a with y | ⟨o, xs, y⟩
          · rw [y] at z; cases z
          · rw [y] at z; cases z
        · exact .inl ⟨o, z⟩
        · exact .inr z
      refine ⟨⟨fun _ => none, []⟩, _, [], zm2 rp, ⟨fun k ds z => by simp at z, fun _ _ => rfl, (fun _ _ _ z => nomatch z), (fun _ z => nomatch z)⟩, ?_⟩
      rw [<- hs, e1]
      cases fl with
      | next ρ' => cases q1
      | ret d =>
        have q1 : Res.ok d M1 = Res.ok (.bl true) M' := q1
        cases q1
        intro v H' μ' _ _ r
        obtain rfl : v = .bl true := r
        exact q H'
    · cases e'
theorem zxd {o : Option Value} {a b : Addr} (h : o = some (.ref a)) (h' : o = some (.ref b)) : a = b := by rw [h] at h'; cases h'; rfl
theorem zix {fa : Fa} {x : Str} {a b : Addr} {i : Nat} {kvs : List (Str × Addr)} {fs : List (Str × Nat)} {o : Option Value} (h : fa i = some a) (h1 : o = some (.ref a)) (h2 : o = some (.ref b)) (r : zej fa kvs fs) : zej fa ((x, b) :: kvs) ((x, i) :: fs) :=
  .cons ⟨rfl, by rw [<- zxd h1 h2]; exact h⟩ r
theorem zx8 {K : PySem.W.Frag} {h : Heap} {mg : Str -> Option Value} {x : Str} {ad : Addr} {P : Params} {es : Array DictEntry} {n : Nat} {kvs : List (Str × Addr)} {fa : Fa} {fs : List (Str × Nat)} (X : K.In h) (G : h.Ns mainGlobals mg) (a : PySem.W.nsIn K mainGlobals x = some (some (.ref ad)))
    (l : K.lookup ad = some { cls := .type "dict", data := .dict es n }) (he : Paired (zks P) es.toList kvs) (nd : (kvs.map (·.1)).Nodup) (ns : (ad == sysModules) = false) (dk : zej fa kvs fs) : ∃ ad kvs, mg x = some (.ref ad) /\ zgg K P ad kvs /\ zej fa kvs fs :=
  ⟨ad, kvs, PySem.W.mg_of X G a, ⟨⟨es, n, l, he⟩, nd, ns⟩, dk⟩
end LD
namespace LD
open PySem PySem.Spec PyProof.Rows L2
theorem zsi (lo hi : Option Int) (n : Nat) : Builtin.Str.strSliceIndices lo hi 1 n = (List.range (HT.sIx n n hi - HT.sIx n 0 lo)).map (HT.sIx n 0 lo + ·) := by
  rw [<- sliceRange_one]
  unfold Builtin.Str.strSliceIndices
  simp only [show (1 : Int) > 0 by decide, if_true]
  congr 1
  · cases lo with
    | none => rfl
    | some i =>
      simp only [HT.sIx]
      split <;> omega
  · cases hi with
    | none => rfl
    | some i =>
      simp only [HT.sIx]
      split <;> omega
def zgq (z : Str) (l h : Nat) : Str := ⟨(cut z.cps.toList l h).toArray⟩
section
variable {fa : Fa} {X : Cx} {a b : PySem.Expr} {ga gb : GE} {pos p2 : Pos} {tg : PySem.Expr}
theorem zo0 {v : Value} {o : Option Int} (h : IsPart v o) : ∃ p : Option (Int × Tok), v = partValue p /\ p.map (·.1) = o := by
  cases h with
  | none => exact ⟨none, rfl, rfl⟩
  | int i t => exact ⟨some (i, t), rfl, rfl⟩
theorem sl_str : SlR X (fun x lo hi H Q => ∃ z : Str, x = .str z /\ z.cps.size ≤ sizeLine /\ Q (.str (zgq z (HT.sIx z.cps.size 0 lo) (HT.sIx z.cps.size z.cps.size hi))) H) := by
  intro pins s σ H x v vl vu lo hi sl Q I rx hs pl pu h
  obtain ⟨z, rfl, hz, q⟩ := h
  obtain ⟨t, rfl⟩ := rx
  obtain ⟨l, rfl, el⟩ := zo0 pl
  obtain ⟨u, rfl, eu⟩ := zo0 pu
  refine ⟨"str", _, slot_str_getitem.lookup, typeIs_str s z t, ?_⟩
  refine wpAny_getItem_str_slice (l := l) (u := u) (st := none) hs rfl ?_
  have e : (slicePicked z l u none).filterMap (z.cps[·]?) = cut z.cps.toList (HT.sIx z.cps.size 0 lo) (HT.sIx z.cps.size z.cps.size hi) := by
    unfold slicePicked
    rw [el, eu]
    show (Builtin.Str.strSliceIndices lo hi 1 z.cps.size).filterMap _ = _
    rw [zsi, pick_run]
    rfl
  unfold sliceMade
  split
  · next c =>
    have c' : (slicePicked z l u none).length = z.length := by simpa using c
    have e2 : zgq z (HT.sIx z.cps.size 0 lo) (HT.sIx z.cps.size z.cps.size hi) = z := by
      have hl : HT.sIx z.cps.size z.cps.size hi - HT.sIx z.cps.size 0 lo = z.cps.size := by
        unfold slicePicked at c'
        rw [el, eu] at c'
        have c' : (Builtin.Str.strSliceIndices lo hi 1 z.cps.size).length = z.cps.size := c'
        rw [zsi] at c'
        simpa using c'
      have hh : HT.sIx z.cps.size z.cps.size hi ≤ z.cps.size := by
        cases hi with
        | none => exact Nat.le_refl _
        | some i => simp only [HT.sIx]; split <;> omega
      have h0 : HT.sIx z.cps.size 0 lo = 0 \/ z.cps.size = 0 := by omega
      unfold zgq cut
      rw [hl]
      rcases h0 with h0 | h0
      · rw [h0]
        rcases z with ⟨zs⟩
        show (⟨(List.take zs.size (List.drop 0 zs.toList)).toArray⟩ : Str) = ⟨zs⟩
        rw [List.drop_zero, List.take_of_length_le (by simp)]
      · have : z.cps = #[] := Array.eq_empty_of_size_eq_zero h0
        rcases z with ⟨zs⟩
        simp at this
        subst this
        simp
    rw [e2] at q
    exact ⟨.str z, H, I, ⟨t, rfl⟩, q⟩
  · rw [e]
    refine ⟨?_, .str _, H, I.tok _, ⟨_, rfl⟩, q⟩
    have : (cut z.cps.toList (HT.sIx z.cps.size 0 lo) (HT.sIx z.cps.size z.cps.size hi)).length ≤ z.cps.size := by
      unfold cut
      rw [List.length_take, List.length_drop]
      simp
      omega
    show (cut z.cps.toList _ _).toArray.size ≤ sizeLine
    simp at this ⊢
    omega
def zjx (hl hh : Bool) (a lo hi : GE) : GE := fun ρ M => (a ρ M).bind fun x M => (lo ρ M).bind fun l M => (hi ρ M).bind fun h M => if zcu hl l && zcu hh h then (match x with
  | .str z => if z.cps.size ≤ sz then (match sIx z.cps.size 0 l, sIx z.cps.size z.cps.size h with
    | some l, some h => .ok (.str (zgq z l h)) M
    | _, _ => .bad) else .bad
  | _ => .bad) else .bad
theorem r_slcS (hl hh : Bool) {lo hi : Option PySem.Expr} {gl gh : GE} (ha : DE fa X a ga) (hlo : DO fa X lo hl gl) (hhi : DO fa X hi hh gh) : DE fa X (.Subscript a (.Slice lo hi none p2) pos) (zjx hl hh ga gl gh) :=
  zc0 (zoy sl_str ha hlo hhi) fun σ H Q ⟨μ, ρ, M, hE, hM, h⟩ => t1 hE hM h fun x M1 v H1 μ1 x1 hE1 hM1 r1 h1 => by
    obtain ⟨l, M2, e2, h2⟩ := zbd h1
    obtain ⟨u, M3, e3, h3⟩ := zbd h2
    split at h3
    · next c =>
      rw [Bool.and_eq_true] at c
      obtain ⟨ol, el⟩ := part_of c.1
      obtain ⟨ou, eu⟩ := part_of c.2
      refine ⟨μ1, ρ, M1, hE1, hM1, ?_⟩
      rw [e2]
      refine ⟨ol, c.1, el, fun H2 μ2 x2 hM2 => ⟨μ2, ρ, M2, hE1.ext x2, hM2, ?_⟩⟩
      rw [e3]
      refine ⟨ou, c.2, eu, fun H3 μ3 x3 hM3 => ?_⟩
      cases x with
      | str z =>
        obtain rfl : v = .str z := r1
        dsimp only at h3
        split at h3
        · next hz =>
          simp only [zkk, el, eu, Option.map_some] at h3
          exact ⟨z, rfl, by rw [<- zes]; exact hz, zbq (v := .str _) hM3 (zbs.ext h3 ((x1.trans x2).trans x3)) rfl⟩
        · exact h3.elim
      | _ => exact h3.elim
    · exact h3.elim
theorem zx1 : OpR X (compareOp .IsNot) (fun x y H Q => ∃ k, x = .bl k /\ y = .bl true /\ Q (.bl (!k)) H) := by
  intro pins s σ H x y v u Q I rx ry h
  obtain ⟨k, rfl, rfl, q⟩ := h
  cases rx
  cases ry
  refine wpAny_pure (zjh I q ?_)
  cases k <;> rfl
def zjy (a b : GE) : GE := fun ρ M => (a ρ M).bind fun x M => (b ρ M).bind fun y M => match x, y with
  | .bl k, .bl true => .ok (.bl (!k)) M
  | _, _ => .bad
theorem q_notT (ha : DE fa X a ga) (hb : DE fa X b gb) (hm : behindInMarks .IsNot b = false) : DT fa X (.Compare a [.IsNot] [b] pos) (zar (zjy ga gb)) :=
  zif (zma zx1 ha hb hm) fun σ H Q ⟨μ, ρ, M, hE, hM, h⟩ => by
    obtain ⟨z, M3, e, q⟩ := zbd h
    have h' : okE (zjy ga gb ρ M) (fun d M => d = z /\ M = M3) := by rw [e]; exact ⟨rfl, rfl⟩
    refine t2 hE hM h' fun x y M2 v u H2 μ2 x2 hE2 hM2 r1 r2 h2 => ?_
    cases x with
    | bl k =>
      cases y with
      | bl j =>
        cases j with
        | true =>
          obtain ⟨rfl, rfl⟩ := h2
          exact ⟨k, r1, r2, !k, rfl, q H2 μ2 x2 hM2⟩
        | false => exact h2.elim
      | _ => exact h2.elim
    | _ => cases y <;> exact h2.elim
def signs (z : Str) : List D := z.cps.toList.map fun c => .str ⟨#[c]⟩
def Its (z : Str) : It := ⟨fun i _ => i < z.cps.size, fun i H x H' => H' = H /\ ∃ c, z.cps[i]? = some c /\ x = .str ⟨#[c]⟩, fun i _ => z.cps.size ≤ i⟩
theorem zod {P : Program} {w : World} {K : PySem.W.Frag} {n : String} (hn : ["enumerate", "zip", "dict_itemiterator", "dict_reverseitemiterator", "odict_iterator", "itertools.zip_longest", "itertools.pairwise"].contains n = false) (it : Addr) (z : Str) (t : Tok)
    (W : ∀ A' : Around, A'.handled = none -> Walks P w A' it [it] [it] z.cps.size (SignAt z) (fun i h => h.IsStrIter it n z t i))
    (S : ∀ (A : Around) (i : Nat) (s : Shared) (Q : Value -> Shared -> Prop) (E : Value -> Shared -> Prop), s.heap.IsStrIter it n z t i -> Q (.ref it) s -> wpAny (model P w) A (pyIter (.ref it)) Q E s)
    (D : ∀ (A : Around) (hh : A.handled = none) (i : Nat) (s : Shared) (Q : Option Value -> Shared -> Prop) (E : Value -> Shared -> Prop), s.heap.IsStrIter it n z t i -> z.cps.size ≤ i -> (∀ h', (∀ b o, b ≠ it -> s.heap.get? b = some o -> h'.get? b = some o) -> Q none { s with heap := h' }) -> wpAny (model P w) A (pyNext (.ref it)) Q E s) :
    Turn P w K tg (Its z) [it] it (fun i h => h.IsStrIter it n z t i) where
  mem := by simp
  obj := fun i h st b hb => by
    have e : b = it := by simpa using hb
    subst e
    obtain ⟨o, e, c, d⟩ := st
    exact ⟨o, e, fun v z => by rw [d] at z; cases z⟩
  keep := fun i h h' st k => let ⟨o, e, r⟩ := st; ⟨o, k it (by simp) o e, r⟩
  item := by
    intro X hP hw hK hc i pins s σ H E I hf st hg
    subst hP hw hK
    obtain ⟨f0, f1, f2, f3, f4, f5⟩ := hf it (by simp)
    refine (W X.A (I.ok.hd hc)).item i s _ _ hg st fun v h' tk hv st' kk => ?_
    obtain ⟨c, u, hc', rfl⟩ := hv
    have I1 : Inv X pins σ H { s with heap := h', toks := tk } := I.turned (fun b o hb e => kk b o (by simpa using hb) e) f0 f1 f3 f4 f5
    obtain ⟨o, e, co, d⟩ := id st'
    exact ⟨_, rfl, zn5 (s := { s with heap := h', toks := tk }) e co d hn ⟨.str ⟨#[c]⟩, H, I1, ⟨u, rfl⟩, ⟨rfl, c, hc', rfl⟩, st', fun b hb => (hf b hb).1⟩⟩
  done := by
    intro X hP hw hK hc i pins s σ H E I hf st hg
    subst hP hw hK
    obtain ⟨f0, f1, f2, f3, f4, f5⟩ := hf it (by simp)
    exact D X.A (I.ok.hd hc) i s _ _ st hg fun h' eb => ⟨rfl, I.turned (t' := s.toks) (fun b o hb e => eb b o hb e) f0 f1 f3 f4 f5⟩
  self := fun A i s Q E st h => S A i s Q E st h
theorem pi_str {l : PySem.Expr} {tl : TE} (hl : PE X l tl) : PI X tg l (fun σ H R => tl σ H fun x H1 => ∃ z, x = .str z /\ R (Its z) H1) := by
  intro pins s σ H R I h
  refine thn (hl pins s σ H _ I h) fun v s1 ⟨x, H1, I1, r1, q1⟩ => ?_
  obtain ⟨z, rfl, q⟩ := q1
  obtain ⟨t, rfl⟩ := r1
  have fp : ∀ b ∈ [s1.heap.objs.size], zfx X pins H1 b := fun b hb => by
    have e : b = s1.heap.objs.size := by simpa using hb
    subst e
    exact I1.fpOk (Nat.le_refl _) (I1.hok.fresh (Nat.le_refl _))
  cases ha : z.cps.all (· < 128)
  · refine wpAny_pyIter_wide ha ?_
    exact ⟨s1.heap.objs.size, [s1.heap.objs.size], _, _, H1, rfl, I1.kept (t' := s1.toks) fun b o e => Heap.get?_push_of_some _ e, zod (n := "str_iterator") rfl _ z t (fun A' h => Walks.strWide h _ z t) (fun A i s Q E st h => wpAny_pyIter_striter_wide st h) (fun A hh i s Q E st hi k => wpAny_pyNext_wide_end hh st (by simp; omega) k), ⟨_, Heap.get?_push_size _ rfl, rfl, rfl⟩, fp, q⟩
  · refine wpAny_pyIter_ascii ha ?_
    exact ⟨s1.heap.objs.size, [s1.heap.objs.size], _, _, H1, rfl, I1.kept (t' := s1.toks) fun b o e => Heap.get?_push_of_some _ e, zod (n := "str_ascii_iterator") rfl _ z t (fun A' h => Walks.strAscii h _ z t) (fun A i s Q E st h => wpAny_pyIter_striter_ascii st h) (fun A hh i s Q E st hi k => wpAny_pyNext_ascii_end hh st (by simp; omega) k), ⟨_, Heap.get?_push_size _ rfl, rfl, rfl⟩, fp, q⟩
def zlq (ga : GE) : Env -> Mem -> Res Walk := fun ρ M => (ga ρ M).bind fun x M => match x with
  | .str z => .ok (fun _ => some (signs z)) M
  | _ => .bad
theorem zui {μ0 : Mu} {H0 : Hp} (z : Str) : zen fa X.K μ0 H0 (fun _ => some (signs z)) (Its z) := fun μ H M ds x hM e => by
  cases e
  refine ⟨fun i d hd => ?_, fun i hi => (show z.cps.size ≤ i by simpa [signs] using hi)⟩
  have hd : (signs z)[i]? = some d := hd
  unfold signs at hd
  rw [List.getElem?_map] at hd
  cases e : z.cps.toList[i]? with
  | none => rw [e] at hd; cases hd
  | some c =>
    rw [e] at hd
    have e' : D.str ⟨#[c]⟩ = d := Option.some.inj hd
    subst e'
    have e2 : z.cps[i]? = some c := by simpa using e
    refine ⟨(Array.getElem?_eq_some_iff.mp e2).1, fun y H' ⟨e1, c', e3, e4⟩ => ?_⟩
    rw [e2] at e3
    cases e3
    subst e1 e4
    exact ⟨.refl, hM, rfl⟩
theorem zyk (ha : DE fa X a ga) : DI fa X tg a (zlq ga) := fun pins s σ H R I ⟨μ, ρ, M, hE, hM, h⟩ => by
  obtain ⟨x, M1, e, q⟩ := zbd h
  refine pi_str ha pins s σ H R I ⟨μ, ρ, M, hE, hM, ?_⟩
  rw [e]
  intro v H1 μ1 x1 m1 r1
  cases x with
  | str z =>
    obtain rfl : v = .str z := r1
    exact ⟨z, rfl, q _ H1 μ1 x1 m1 (zui z)⟩
  | _ => exact q.elim
end
end LD
namespace LD
open PySem PySem.Spec PyProof.Rows L2
structure Box (p : Prop) : Prop where
  h : p
section
variable {fa : Fa} {X : Cx} {a b c d elt tg iter t2 i2 : PySem.Expr} {ga gb gd ge : GE} {ta tb gc : GT} {pos p p2 py spos : Pos} {es : List PySem.Expr} {gs : GA} {n : Nat} {scope : Scope} {own bn : List Str} {t u : Tgt} {gw gw2 : GW} {i : Nat} {y : Str}
theorem zat {i : Nat} {x : Str} (hN : X.N.Nodup) (hi : X.N[i]? = some x) (hx : Loc X.env.scope x) (hf : X.fn x = true \/ X.env.scope.names.lookup x = some .local) : Box (PG X (.Name x pos) (gT fa X.K (.one i))) := ⟨zyn hN hi hx hf⟩
theorem zgj (hc : X.calm = true) (hN : X.N.Nodup) {l : List Nat} {ns : List PySem.Expr} {k : Nat} (h : zhy X l ns) : Box (PG X (.Tuple ns k pos) (gT fa X.K (.tup l))) := ⟨dg_tup hc hN h⟩
theorem zgi (ha : Box (DE fa X a ga)) : Box (DI fa X tg a (zd5 ga)) := ⟨di_seq ha.h⟩
theorem zf2 (ha : Box (DE fa X a ga)) (hg : Gl X "range") (hm : X.mg "range" = none) (hs : starEach [a] X.env = [(false, eval a X.env)]) : Box (DI fa X tg (.Call (.Name "range" p) [a] [] pos) (zd4 ga)) := ⟨zyl ha.h hg hm hs⟩
theorem zuf {elts : List PySem.Expr} {kk : Nat} {tp : Pos} (ha : Box (DE fa X a ga)) (hg : Gl X "enumerate") (hm : X.mg "enumerate" = none) (hs : starEach [a] X.env = [(false, eval a X.env)]) : Box (DI fa X (.Tuple elts kk tp) (.Call (.Name "enumerate" p) [a] [] pos) (zg7 ga)) := ⟨zym ha.h hg hm hs⟩
theorem zud {fa : Fa} {X : Cx} {elts : List PySem.Expr} {kk : Nat} {tp p pos : Pos} {e0 e1 : PySem.Expr} {g0 g1 : Env -> Mem -> Res D} (h0 : Box (DE fa X e0 g0)) (h1 : Box (DE fa X e1 g1)) (hg : Gl X "zip") (hm : X.mg "zip" = none) (hs0 : starEach [e0, e1] X.env = [(false, eval e0 X.env), (false, eval e1 X.env)]) (hs1 : starEach [e1] X.env = [(false, eval e1 X.env)]) : Box (DI fa X (.Tuple elts kk tp) (.Call (.Name "zip" p) [e0, e1] [] pos) (zlp g0 g1)) := ⟨zyj h0.h h1.h hg hm hs0 hs1⟩
theorem zad {i : Nat} {x : Str} (hN : X.N[i]? = some x) (hv : Vis X.env.scope x) (hd : (x == ("__debug__" : Str)) = false) (hcd : (x == ("__classdict__" : Str)) = false) : Box (DE fa X (.Name x pos) (zab i)) := ⟨r_var hN hv hd hcd⟩
theorem zai {i : Int} {j : Nat} : Box (DE fa X (.Constant (.int i) j pos) (gC (.int i))) := ⟨r_int⟩
theorem zcf {i : Bool} {j : Nat} : Box (DE fa X (.Constant (.bool i) j pos) (gC (.bl i))) := ⟨r_bl⟩
theorem zcj {i : Str} {j : Nat} : Box (DE fa X (.Constant (.str i) j pos) (gC (.str i))) := ⟨r_str⟩
theorem zku {j : Nat} : Box (DE fa X (.Constant .none j pos) (gC .non)) := ⟨r_non⟩
theorem zaq (m : Bool) (o : Bin) (ha : Box (DE fa X a ga)) (hb : Box (DE fa X b gb)) : Box (DE fa X (.BinOp a (binOp o) b pos) (zap m o ga gb)) := ⟨r_bin m o ha.h hb.h⟩
theorem ze5 (hu : Rm X) (o : Cmp) (ha : Box (DE fa X a ga)) (hb : Box (DE fa X b gb)) (hm : behindInMarks (zb2 o) b = false) : Box (DE fa X (.Compare a [zb2 o] [b] pos) (za4 o ga gb)) := ⟨r_cmp hu o ha.h hb.h hm⟩
theorem zbp (hu : Rm X) (o : Cmp) (ha : Box (DE fa X a ga)) (hb : Box (DE fa X b gb)) (hm : behindInMarks (zb2 o) b = false) : Box (DT fa X (.Compare a [zb2 o] [b] pos) (zar (za4 o ga gb))) := ⟨q_cmp hu o ha.h hb.h hm⟩
theorem zr6 (hu : Rm X) (o o' : Cmp) {gc : GE} (ha : Box (DE fa X a ga)) (hb : Box (DE fa X b gb)) (hc : Box (DE fa X d gc)) (hm : lastMarks [zb2 o, zb2 o'] [b, d] = false) : Box (DE fa X (.Compare a [zb2 o, zb2 o'] [b, d] pos) (zh5 o o' ga gb gc)) := ⟨r_chn hu o o' ha.h hb.h hc.h hm⟩
theorem zr7 (hu : Rm X) (o o' : Cmp) {gc : GE} (ha : Box (DE fa X a ga)) (hb : Box (DE fa X b gb)) (hc : Box (DE fa X d gc)) (hm : lastMarks [zb2 o, zb2 o'] [b, d] = false) : Box (DT fa X (.Compare a [zb2 o, zb2 o'] [b, d] pos) (zar (zh5 o o' ga gb gc))) := ⟨q_chn hu o o' ha.h hb.h hc.h hm⟩
theorem zi2 (ha : Box (DE fa X a ga)) : Box (DE fa X (.UnaryOp .USub a pos) (zfb ga)) := ⟨r_neg ha.h⟩
theorem zdo {rest : List PySem.Expr} (ha : Box (DE fa X a ga)) (hb : Box (DE fa X (.BoolOp .And (b :: rest) pos) gb)) : Box (DE fa X (.BoolOp .And (a :: b :: rest) pos) (zd2 ga gb)) := ⟨r_and ha.h hb.h⟩
theorem ze4 {op : PySem.BoolOp} (ha : Box (DE fa X a ga)) : Box (DE fa X (.BoolOp op [a] pos) ga) := ⟨r_one ha.h⟩
theorem xr_not (ha : Box (DE fa X a ga)) : Box (DE fa X (.UnaryOp .Not a pos) (gNot ga)) := ⟨r_not ha.h⟩
theorem zi4 {rest : List PySem.Expr} (ha : Box (DT fa X a ta)) (hb : Box (DW fa X (.BoolOp .And (b :: rest) pos) tb)) : Box (DW fa X (.BoolOp .And (a :: b :: rest) pos) (zgm ta tb)) := ⟨q_and ha.h hb.h⟩
theorem zd8 {rest : List PySem.Expr} (ha : Box (DT fa X a ta)) (hb : Box (DW fa X (.BoolOp .Or (b :: rest) pos) tb)) : Box (DW fa X (.BoolOp .Or (a :: b :: rest) pos) (tOr ta tb)) := ⟨q_or ha.h hb.h⟩
theorem zl0 (ha : Box (DT fa X a ta)) : Box (DW fa X (.BoolOp .And [a] pos) ta) := ⟨q_and1 ha.h⟩
theorem zdw (ha : Box (DT fa X a ta)) : Box (DW fa X (.BoolOp .Or [a] pos) ta) := ⟨q_or1 ha.h⟩
theorem ze9 (h : Box (DW fa X a ta)) : Box (DT fa X a ta) := ⟨q_w h.h⟩
theorem zb9 (ha : Box (DT fa X a ta)) : Box (DT fa X (.UnaryOp .Not a pos) (zb3 ta)) := ⟨q_not ha.h⟩
theorem zby (ha : Box (DE fa X a ga)) (he : ∀ whole, isTrue a X.env whole = (do let v <- whole; standAt a.pos; holding [v] (truthy v))) : Box (DT fa X a (zar ga)) := ⟨q_tru ha.h he⟩
theorem zr5 {c : PySem.Expr} (hc : Box (DT fa X c ta)) (ha : Box (DE fa X a ga)) (hb : Box (DE fa X b gb)) : Box (DE fa X (.IfExp c a b pos) (zjg ta ga gb)) := ⟨r_ite hc.h ha.h hb.h⟩
theorem zbg (ha : Box (DE fa X a ga)) (hb : Box (DE fa X b gb)) (hs : zgr b) : Box (DE fa X (.Subscript a b pos) (zaw ga gb)) := ⟨r_idx ha.h hb.h hs⟩
theorem zf8 (m hl hh : Bool) {lo hi : Option PySem.Expr} {gl gh : GE} {p2 : Pos} (ha : Box (DE fa X a ga)) (hlo : Box (DO fa X lo hl gl)) (hhi : Box (DO fa X hi hh gh)) : Box (DE fa X (.Subscript a (.Slice lo hi none p2) pos) (zdc m hl hh ga gl gh)) := ⟨r_slc m hl hh ha.h hlo.h hhi.h⟩
theorem ze7  : Box (DO fa X none false (gC .non)) := ⟨o_none⟩
theorem zd6 (ha : Box (DE fa X a ga)) : Box (DO fa X (some a) true ga) := ⟨o_some ha.h⟩
theorem zak  : Box (DA fa X [] zag) := ⟨a_nil⟩
theorem zac (ha : Box (DE fa X a ga)) (hs : Box (DA fa X es gs)) (h0 : notStar a = true) : Box (DA fa X (a :: es) (zaa ga gs)) := ⟨a_cons ha.h hs.h h0⟩
theorem zbt {k : Nat} (hs : Box (DA fa X es gs)) : Box (DE fa X (.Tuple es k pos) (za3 gs)) := ⟨r_tup hs.h⟩
theorem zcy (m : Bool) (hs : Box (DA fa X es gs)) : Box (DE fa X (.List es pos) (zbw m gs)) := ⟨r_lst m hs.h⟩
theorem zan (f : Nat) {x : Str} {call : Call} (C : ∀ f, zfp fa X.prog X.w X.K X.mg X.base n f (call f)) (hr : zbk n X.A) (hg : Gl X x) (hm : ∀ ad, fa f = some ad -> X.mg x = some (.ref ad)) (hs : Box (DA fa X (a :: es) gs)) (hdb : (x == ("__debug__" : Str)) = false) (he : notStar a = true) (hpl : es.all notStar = true) : Box (DE fa X (.Call (.Name x p) (a :: es) [] pos) (zam f call gs)) := ⟨r_call f C hr hg hm hs.h hdb he hpl⟩
theorem zub {i : Nat} {x : Str} {call : Call} (C : ∀ f, zfp fa X.prog X.w X.K X.mg X.base n f (call f)) (hr : zbk n X.A) (hN : X.N[i]? = some x) (hv : Vis X.env.scope x) (hs : Box (DA fa X (a :: es) gs)) (hd : (x == ("__debug__" : Str)) = false) (hcd : (x == ("__classdict__" : Str)) = false) (he : notStar a = true) (hpl : es.all notStar = true) : Box (DE fa X (.Call (.Name x p) (a :: es) [] pos) (zih i call gs)) := ⟨zxj C hr hN hv hs.h hd hcd he hpl⟩
theorem zcs (hg : Gl X "len") (hm : X.mg "len" = none) (hs : Box (DA fa X (a :: es) gs)) (he : notStar a = true) (hpl : es.all notStar = true) : Box (DE fa X (.Call (.Name "len" p) (a :: es) [] pos) (zbe .len gs)) := ⟨r_len hg hm hs.h he hpl⟩
theorem zob (hc : X.calm = true) (hg : Gl X "all") (hm : X.mg "all" = none) (hs : Box (DA fa X (a :: es) gs)) (he : notStar a = true) (hpl : es.all notStar = true) : Box (DE fa X (.Call (.Name "all" p) (a :: es) [] pos) (zbe .all gs)) := ⟨r_all hc hg hm hs.h he hpl⟩
theorem zgh (hg : Gl X "tuple") (hm : X.mg "tuple" = none) (hs : Box (DA fa X (a :: es) gs)) (he : notStar a = true) (hpl : es.all notStar = true) : Box (DE fa X (.Call (.Name "tuple" p) (a :: es) [] pos) (zbe .tuple gs)) := ⟨zxe hg hm hs.h he hpl⟩
theorem zqe (m : Bool) (hg : Gl X "list") (hm : X.mg "list" = none) (hs : Box (DA fa X (a :: es) gs)) (he : notStar a = true) (hpl : es.all notStar = true) : Box (DE fa X (.Call (.Name "list" p) (a :: es) [] pos) (zbe (.list m) gs)) := ⟨r_list m hg hm hs.h he hpl⟩
theorem zbz (t : Ty) (ht : ∀ c, t ≠ .own c) {x : Str} {p1 p2 : Pos} (ha : Box (DE fa X a ga)) (hg : Gl X "isinstance") (hm : X.mg "isinstance" = none) (hgt : Gl X x) (hmt : X.mg x = none) (hvt : bootBuiltins x = some (.type (tyName t))) (hn : x ≠ "__name__") (hdb : (x == ("__debug__" : Str)) = false) (he : starEach [a, .Name x p1] X.env = (false, eval a X.env) :: starEach [.Name x p1] X.env) : Box (DE fa X (.Call (.Name "isinstance" p2) [a, .Name x p1] [] pos) (zb6 t ga)) := ⟨r_inst t ht ha.h hg hm hgt hmt hvt hn hdb he⟩
theorem za8 {tg : PySem.Expr} {t : Tgt} (ha : Box (DE fa X a ga)) (hg : Box (PG X tg (gT fa X.K t))) (hs : swapsWithSole [tg] a pos.line X.env = pure false) (hw : swappedStores [tg] a X.env = pure none) (h1 : (assignEach [tg] X.env).map (·.2) = [assign tg X.env]) : Box (DS fa X (.Assign [tg] a pos) (zax t ga)) := ⟨s_asg ha.h hg.h hs hw h1⟩
theorem zhe {p2 : Pos} (ha : Box (DE fa X a ga)) (hb : Box (DE fa X b gb)) (hd : Box (DE fa X d gd)) (h0 : ∀ v, assign (.Subscript a b p2) X.env v = (do
      let ov <- holding [v] (eval a X.env)
      let iv <- holding [v, ov] (eval b X.env)
      standAt p2
      holding [v, ov, iv] (setItem ov iv v)
      release [v, ov, iv] [])) (hs : swapsWithSole [.Subscript a b p2] d pos.line X.env = pure false) (hw : swappedStores [.Subscript a b p2] d X.env = pure none) (h1 : (assignEach [.Subscript a b p2] X.env).map (·.2) = [assign (.Subscript a b p2) X.env]) : Box (DS fa X (.Assign [.Subscript a b p2] d pos) (zfa ga gb gd)) := ⟨s_put ha.h hb.h hd.h h0 hs hw h1⟩
theorem xs_app {apos cpos : Pos} (ha : Box (DE fa X a ga)) (hd : Box (DE fa X d gd)) (hbase : attributeBase a "append" X.env (eval a X.env) = eval a X.env) (hline : (apos.endLine == cpos.line) = true) (hs : starEach [d] X.env = [(false, eval d X.env)]) (hsw : swapsWith (.Call (.Attribute a "append" apos) [d] [] cpos) none pos.line X.env = pure false) : Box (DS fa X (.Expr (.Call (.Attribute a "append" apos) [d] [] cpos) pos) (ziq ga gd)) := ⟨s_app ha.h hd.h hbase hline hs hsw⟩
theorem zau (ha : Box (DE fa X a ga)) : Box (DS fa X (.Return (some a) pos) (zas ga)) := ⟨s_ret ha.h⟩
theorem zbb {c : PySem.Expr} {st sf : List PySem.Stmt} {gt gf : GS} (hc : Box (DT fa X c ta)) (ht : Box (DSs fa X st gt)) (hf : Box (DSs fa X sf gf)) : Box (DS fa X (.If c st sf pos) (za2 ta gt gf)) := ⟨s_ite hc.h ht.h hf.h⟩
theorem zi1 {t : Tgt} {tg : PySem.Expr} {body : List PySem.Stmt} {gw : GW} {gb : GS} (hp : PassesOwn (model X.prog X.w) X.A X.env X.xe) (hc : X.calm = true) (hi : Box (DI fa X tg a gw)) (hg : Box (PG X tg (gT fa X.K t))) (hb : Box (DSs fa X body gb)) (hs : ∀ x, foldedSetIterable a X.env x = pure x) : Box (DS fa X (.For tg a body [] pos) (zd1 t gw gb)) := ⟨s_for hp hc hi.h hg.h hb.h hs⟩
theorem zal  : Box (DSs fa X [] zaj) := ⟨ss_nil⟩
theorem zaf {st : PySem.Stmt} {ss : List PySem.Stmt} {g g' : GS} (h1 : Box (DS fa X st g)) (h2 : Box (DSs fa X ss g')) : Box (DSs fa X (st :: ss) (zae g g')) := ⟨zw3 h1.h h2.h⟩
theorem zt9 (m : Bool) {p1 p2 pos2 : Pos} (hc : X.calm = true) (ha : Box (DE fa X a ga)) (hgl : Gl X "list") (hml : X.mg "list" = none) (hg : Gl X "range") (hm : X.mg "range" = none) (hs : starEach [a] X.env = [(false, eval a X.env)]) (hs2 : starEach [.Call (.Name "range" p2) [a] [] pos2] X.env = [(false, eval (.Call (.Name "range" p2) [a] [] pos2) X.env)]) : Box (DE fa X (.Call (.Name "list" p1) [.Call (.Name "range" p2) [a] [] pos2] [] pos) (zjf m ga)) := ⟨zxf m hc ha.h hgl hml hg hm hs hs2⟩
theorem zfg (m : Bool) (S : zeo X own bn scope) (hc : X.calm = true) (hi : Box (DI fa X tg iter gw)) (pg : ∀ cl C fp s H, Box (PG (zcn X own bn scope cl C fp s H) tg (gT fa X.K t))) (he : ∀ cl C fp s H, Box (DE fa (zcn X own bn scope cl C fp s H) elt ge)) (hn : (slots t).all (· < own.length) = true) (hs : ∀ x, foldedSetIterable iter X.env x = pure x) : Box (DE fa X (.ListComp elt [⟨tg, iter, [], 0⟩] scope pos) (zb7 m own.length t gw (zci ge))) := ⟨zxi m S hc hi.h (fun cl C fp s H => (pg cl C fp s H).h) (fun cl C fp s H => (he cl C fp s H).h) hn hs⟩
theorem zi3 (m : Bool) (S : zeo X own bn scope) (hc : X.calm = true) (hi : Box (DI fa X tg iter gw)) (pg : ∀ cl C fp s H, Box (PG (zcn X own bn scope cl C fp s H) tg (gT fa X.K t))) (ht : ∀ cl C fp s H, Box (DT fa (zcn X own bn scope cl C fp s H) c gc)) (he : ∀ cl C fp s H, Box (DE fa (zcn X own bn scope cl C fp s H) elt ge)) (hn : (slots t).all (· < own.length) = true) (hs : ∀ x, foldedSetIterable iter X.env x = pure x) : Box (DE fa X (.ListComp elt [⟨tg, iter, [c], 0⟩] scope pos) (zb7 m own.length t gw (gIf gc (zci ge)))) := ⟨zu2 m S hc hi.h (fun cl C fp s H => (pg cl C fp s H).h) (fun cl C fp s H => (ht cl C fp s H).h) (fun cl C fp s H => (he cl C fp s H).h) hn hs⟩
theorem zr4 (m : Bool) (S : zeo X own bn scope) (hc : X.calm = true) (hi : Box (DI fa X tg iter gw)) (pg : ∀ cl C fp s H, Box (PG (zcn X own bn scope cl C fp s H) tg (gT fa X.K t))) (ht : ∀ cl C fp s H, Box (DT fa (zcn X own bn scope cl C fp s H) c gc)) (he : ∀ cl C fp s H, Box (DE fa (zcn X own bn scope cl C fp s H) elt ge)) (hn : (slots t).all (· < own.length) = true) (hs : ∀ x, foldedSetIterable iter X.env x = pure x) (hN : X.N.Nodup) (hy : X.N[i]? = some y) (hl : X.env.scope.names.lookup y = some .local) (hsw : swapsWith (.ListComp elt [⟨tg, iter, [c], 0⟩] scope pos) (some (.Name y py)) spos.line X.env = pure true) : Box (DS fa X (.Assign [.Name y py] (.ListComp elt [⟨tg, iter, [c], 0⟩] scope pos) spos) (zax (.one i) (zb7 m own.length t gw (gIf gc (zci ge))))) := ⟨zux m S hc hi.h (fun cl C fp s H => (pg cl C fp s H).h) (fun cl C fp s H => (ht cl C fp s H).h) (fun cl C fp s H => (he cl C fp s H).h) hn hs hN hy hl hsw⟩
theorem zhf {x : Str} {i : Int} (hg : Gl X x) (hm : ∃ t, X.mg x = some (.int i t)) (hd : (x == ("__debug__" : Str)) = false) : Box (DE fa X (.Name x pos) (gC (.int i))) := ⟨zxg hg hm hd⟩
theorem zua {x : Str} {b : PySem.Expr} {gb : GE} {p : Pos} {fs : List (Str × Nat)} (h : ∃ ad kvs, X.mg x = some (.ref ad) /\ zgg X.K X.w.params ad kvs /\ zej fa kvs fs) (hg : Gl X x) (hdb : (x == ("__debug__" : Str)) = false) (hb : Box (DE fa X b gb)) (hs : zgr b) : Box (DE fa X (.Subscript (.Name x p) b pos) (ziv fs gb)) := ⟨zxh h hg hdb hb.h hs⟩
theorem zuc {x : Str} {a : PySem.Expr} {ga : GE} {p : Pos} {fs : List (Str × Nat)} (h : ∃ ad kvs, X.mg x = some (.ref ad) /\ zgg X.K X.w.params ad kvs /\ zej fa kvs fs) (hg : Gl X x) (hdb : (x == ("__debug__" : Str)) = false) (ha : Box (DE fa X a ga)) (hmk : behindInMarks .NotIn (.Name x p) = false) : Box (DT fa X (.Compare a [.NotIn] [.Name x p] pos) (zar (ziu fs ga))) := ⟨zxm h hg hdb ha.h hmk⟩
theorem xr_rev (m : Bool) {pc pu : Pos} {k : Nat} (ha : Box (DE fa X a ga)) : Box (DE fa X (.Subscript a (.Slice none none (some (.UnaryOp .USub (.Constant (.int 1) k pc) pu)) p2) pos) (gRev m ga)) := ⟨r_rev m ha.h⟩
theorem zqd (hl hh : Bool) {lo hi : Option PySem.Expr} {gl gh : GE} (ha : Box (DE fa X a ga)) (hlo : Box (DO fa X lo hl gl)) (hhi : Box (DO fa X hi hh gh)) : Box (DE fa X (.Subscript a (.Slice lo hi none p2) pos) (zjx hl hh ga gl gh)) := ⟨r_slcS hl hh ha.h hlo.h hhi.h⟩
theorem zwx (ha : Box (DE fa X a ga)) (hb : Box (DE fa X b gb)) (hm : behindInMarks .IsNot b = false) : Box (DT fa X (.Compare a [.IsNot] [b] pos) (zar (zjy ga gb))) := ⟨q_notT ha.h hb.h hm⟩
theorem zue (ha : Box (DE fa X a ga)) : Box (DI fa X tg a (zlq ga)) := ⟨zyk ha.h⟩
theorem unbox {st : List PySem.Stmt} {g : GS} (h : Box (DSs fa X st g)) : DSs fa X st g := h.h
end
end LD
namespace LD
open PySem
def zdd : List (Str × Nat) := [("turn", 7), ("join", 8), ("move", 9), ("put", 10)]
def zpi : List (Str × Nat) := [("turn", 20), ("join", 21), ("move", 22), ("put", 23)]
def zel (c : Call) : GS := zae (za2 (tOr (zar (zb6 .bool (zab 0))) (zb3 (zar (zb6 .int (zab 0))))) (zae (zas (gC (.bl false))) (zaj)) (zaj)) (zae (zas (zh5 .le .le (zab 1) (zab 0) (zab 2))) (zaj))
def zg0 (c : Call) : GS := zae (zas (zam 0 c (zaa (zab 1) (zaa (gC (.int 0)) (zaa (zap false .sub (zab 0) (gC (.int 1))) (zag)))))) (zaj)
def zge (c : Call) : GS := zae (zas (zam 0 c (zaa (zab 1) (zaa (gC (.int 0)) (zaa (zap false .sub (zab 0) (gC (.int 1))) (zag)))))) (zaj)
def zg1 (c : Call) : GS := zae (zas (zam 0 c (zaa (zab 0) (zaa (gC (.int 1)) (zaa (gC (.int 3)) (zag)))))) (zaj)
def zd7 (c : Call) : GS := zae (zas (zd2 (zb6 .tuple (zab 1)) (za4 .eq (zbe .len (zaa (zab 1) (zag))) (zab 0)))) (zaj)
def zgd (c : Call) : GS := zae (zas (zd2 (zam 4 c (zaa (zab 0) (zaa (zab 1) (zag)))) (zbe .all (zaa (zb7 false 1 (.one 0) (zd5 (zab 1)) (zci (zam 1 c (zaa (zab 1) (zaa (zab 0) (zag)))))) (zag))))) (zaj)
def zdr (c : Call) : GS := zae (zas (zd2 (zam 4 c (zaa (zab 0) (zaa (zab 1) (zag)))) (zbe .all (zaa (zb7 false 1 (.one 0) (zd5 (zab 1)) (zci (zam 5 c (zaa (zab 1) (zaa (zab 0) (zag)))))) (zag))))) (zaj)
def zea (c : Call) : GS := zae (za2 (zar (za4 .ne (zbe .len (zaa (zab 2) (zag))) (gC (.int 3)))) (zae (zas (gC (.bl false))) (zaj)) (zaj)) (zae (zax (.tup [3, 4, 5]) (zab 2)) (zae (zas (zd2 (zam 2 c (zaa (zab 1) (zaa (zab 3) (zag)))) (zd2 (zam 5 c (zaa (zab 0) (zaa (zab 4) (zag)))) (zam 3 c (zaa (zab 5) (zag)))))) (zaj)))
def zdv (c : Call) : GS := zae (za2 (zar (za4 .ne (zbe .len (zaa (zab 2) (zag))) (gC (.int 4)))) (zae (zas (gC (.bl false))) (zaj)) (zaj)) (zae (zax (.tup [3, 4, 5, 6]) (zab 2)) (zae (za2 (tOr (zb3 (zar (zam 2 c (zaa (zab 1) (zaa (zab 3) (zag)))))) (zb3 (zar (zam 2 c (zaa (zab 1) (zaa (zab 4) (zag))))))) (zae (zas (gC (.bl false))) (zaj)) (zaj)) (zae (zas (zd2 (zam 6 c (zaa (zab 0) (zaa (zab 5) (zag)))) (zam 3 c (zaa (zab 6) (zag))))) (zaj))))
def zeb (c : Call) : GS := zae (za2 (zar (za4 .ne (zbe .len (zaa (zab 2) (zag))) (gC (.int 3)))) (zae (zas (gC (.bl false))) (zaj)) (zaj)) (zae (zax (.tup [3, 4, 5]) (zab 2)) (zae (zas (zd2 (zam 2 c (zaa (zab 1) (zaa (zab 3) (zag)))) (zd2 (zam 2 c (zaa (zab 1) (zaa (zab 4) (zag)))) (zam 3 c (zaa (zab 5) (zag)))))) (zaj)))
def ze3 (c : Call) : GS := zae (za2 (zar (za4 .ne (zbe .len (zaa (zab 2) (zag))) (gC (.int 3)))) (zae (zas (gC (.bl false))) (zaj)) (zaj)) (zae (zax (.tup [3, 4, 5]) (zab 2)) (zae (zas (zd2 (zam 2 c (zaa (zab 1) (zaa (zab 3) (zag)))) (zd2 (zam 1 c (zaa (zab 0) (zaa (zab 4) (zag)))) (zam 3 c (zaa (zab 5) (zag)))))) (zaj)))
def zec (c : Call) : GS := zae (za2 (tOr (zb3 (zar (zb6 .tuple (zab 2)))) (zb3 (zar (zab 2)))) (zae (zas (gC (.bl false))) (zaj)) (zaj)) (zae (zax (.one 3) (zaw (zab 2) (gC (.int 0)))) (zae (za2 (tOr (zb3 (zar (zb6 .str (zab 3)))) (zar (ziu zdd (zab 3)))) (zae (zas (gC (.bl false))) (zaj)) (zaj)) (zae (zax (.one 4) (ziv zdd (zab 3))) (zae (zas (zih 4 c (zaa (zab 0) (zaa (zab 1) (zaa (zdc false true false (zab 2) (gC (.int 1)) (gC .non)) (zag)))))) (zaj)))))
def zek (c : Call) : GS := zae (za2 (zb3 (zar (zam 4 c (zaa (gC (.int 3)) (zaa (zab 0) (zag)))))) (zae (zas (gC (.bl false))) (zaj)) (zaj)) (zae (zax (.tup [1, 2, 3]) (zab 0)) (zae (za2 (tOr (zb3 (zar (zam 0 c (zaa (zab 1) (zaa (gC (.int 2)) (zaa (gC (.int 4)) (zag))))))) (zb3 (zar (zam 0 c (zaa (zab 2) (zaa (gC (.int 1)) (zaa (gC (.int 2)) (zag)))))))) (zae (zas (gC (.bl false))) (zaj)) (zaj)) (zae (za2 (tOr (zb3 (zar (zb6 .tuple (zab 3)))) (zb3 (zar (zh5 .le .le (gC (.int 1)) (zbe .len (zaa (zab 3) (zag))) (gC (.int 6)))))) (zae (zas (gC (.bl false))) (zaj)) (zaj)) (zae (zas (zbe .all (zaa (zb7 false 1 (.one 0) (zd5 (zab 3)) (zci (zam 11 c (zaa (zab 2) (zaa (zab 3) (zaa (zab 0) (zag))))))) (zag)))) (zaj)))))
def zms (c : Call) : GS := zae (za2 (zb3 (zar (zam 12 c (zaa (zab 0) (zag))))) (zae (zja) (zaj)) (zaj)) (zaj)
def zmt (c : Call) : GS := zae (zax (.tup [2, 3, 4]) (zab 0)) (zae (zas (zd2 (zam 4 c (zaa (zab 3) (zaa (zab 1) (zag)))) (zbe .all (zaa (zb7 false 1 (.one 0) (zd5 (zab 1)) (zci (zam 1 c (zaa (zab 3) (zaa (zab 0) (zag)))))) (zag))))) (zaj))
def zjn (c : Call) : GS := zae (sEx (zam 13 c (zaa (zab 0) (zag)))) (zae (zax (.tup [1, 2, 3]) (zab 0)) (zae (zax (.one 4) (zbw false (zaa (za3 (zag)) (zag)))) (zae (zd1 (.one 5) (zd4 (zab 2)) (zae (zax (.one 4) (zb7 false 2 (.one 0) (zd5 (zab 4)) (gGen (.one 1) (zd4 (zab 3)) (zci (zap false .add (zab 0) (za3 (zaa (zab 1) (zag)))))))) (zaj))) (zae (zas (zab 4)) (zaj)))))
def zkq (c : Call) : GS := zae (zas (zam 0 c (zaa (zab 1) (zaa (gC (.int 0)) (zaa (zap false .sub (zbe .len (zaa (zaw (zab 0) (gC (.int 2))) (zag))) (gC (.int 1))) (zag)))))) (zaj)
def zmr (c : Call) : GS := zae (za2 (zb3 (zar (zb6 .list (zab 1)))) (zae (zja) (zaj)) (zaj)) (zae (zd1 (.tup [2, 3]) (zg7 (zab 1)) (zae (za2 (zb3 (zar (zam 16 c (zaa (zab 0) (zaa (zab 3) (zag)))))) (zae (zja) (zaj)) (zaj)) (zaj))) (zaj))
def zr1 (c : Call) : GS := zae (sEx (zam 13 c (zaa (zab 0) (zag)))) (zae (sEx (zam 17 c (zaa (zab 0) (zaa (zab 1) (zag))))) (zae (za2 (zar (za4 .gt (zbe .len (zaa (zab 1) (zag))) (gC (.int 40)))) (zae (zja) (zaj)) (zaj)) (zaj)))
def b_cost (c : Call) : GS := zae (sEx (zam 18 c (zaa (zab 0) (zaa (zab 1) (zag))))) (zae (zas (zam 47 c (zaa (zab 0) (zaa (zab 1) (zag))))) (zaj))
def zv1 (c : Call) : GS := zae (zax (.tup [2, 3, 4, 5]) (zab 0)) (zae (zas (zaw (zab 4) (zaw (zab 1) (zab 3)))) (zaj))
def zv4 (c : Call) : GS := zae (zax (.tup [2, 3, 4, 5, 6]) (zab 0)) (zae (zas (zaw (zaw (zab 5) (zaw (zab 1) (zab 3))) (zaw (zab 1) (zab 4)))) (zaj))
def zyx (c : Call) : GS := zae (zax (.tup [2, 3, 4, 5]) (zab 0)) (zae (zas (zaw (zab 1) (zab 4))) (zaj))
def zv2 (c : Call) : GS := zae (zax (.tup [2, 3, 4, 5]) (zab 0)) (zae (zas (zab 4)) (zaj))
def b_done (c : Call) : GS := zae (zax (.one 2) (ziv zpi (zaw (zab 0) (gC (.int 0))))) (zae (zax (.one 3) (zaw (zab 0) (gC (.int 1)))) (zae (zas (zap false .add (zap false .add (zdc false false true (zab 1) (gC .non) (zab 3)) (za3 (zaa (zih 2 c (zaa (zab 0) (zaa (zab 1) (zag)))) (zag)))) (zdc false true false (zab 1) (zap false .add (zab 3) (gC (.int 1))) (gC .non)))) (zaj)))
def zmu (c : Call) : GS := zae (zax (.one 3) (zbw true (zaa (zab 2) (zag)))) (zae (zd1 (.one 4) (zd5 (zab 1)) (zae (ziq (zab 3) (zam 24 c (zaa (zaw (zaw (zab 0) (gC (.int 2))) (zab 4)) (zaa (zaw (zab 3) (zfb (gC (.int 1)))) (zag))))) (zaj))) (zae (zas (zab 3)) (zaj)))
def b_run (c : Call) : GS := zae (sEx (zam 18 c (zaa (zab 0) (zaa (zab 1) (zag))))) (zae (za2 (zb3 (zar (zam 14 c (zaa (zab 0) (zaa (zab 2) (zag)))))) (zae (zja) (zaj)) (zaj)) (zae (zas (zam 25 c (zaa (zab 0) (zaa (zab 1) (zaa (zab 2) (zag)))))) (zaj)))
def zkc (c : Call) : GS := zae (sEx (zam 18 c (zaa (zab 0) (zaa (zab 1) (zag))))) (zae (zas (zam 46 c (zaa (zab 0) (zaa (zab 1) (zag))))) (zaj))
def zf0 (c : Call) : GS := zae (za2 (zar (za4 .ge (zab 0) (zap false .pow (gC (.int 10)) (gC (.int 18))))) (zae (zas (zab 0)) (zaj)) (zaj)) (zae (zax (.one 2) (zbw false (zaa (gC (.int 2147483629)) (zaa (gC (.int 2147483587)) (zaa (gC (.int 2147483579)) (zaa (gC (.int 2147483563)) (zaa (gC (.int 2147483549)) (zaa (gC (.int 2147483543)) (zaa (gC (.int 2147483497)) (zaa (gC (.int 2147483489)) (zag))))))))))) (zae (zax (.one 2) (zap false .add (zab 2) (zbw false (zaa (gC (.int 2147483477)) (zaa (gC (.int 2147483423)) (zaa (gC (.int 2147483399)) (zaa (gC (.int 2147483353)) (zaa (gC (.int 2147483323)) (zag))))))))) (zae (zax (.one 3) (zap false .mod (zap false .pow (zap false .add (zap false .add (zap false .mul (zap false .mod (zab 0) (gC (.int 1000000007))) (zap false .add (zap false .mul (gC (.int 2)) (zab 1)) (gC (.int 69069)))) (zap false .mul (zab 1) (gC (.int 40503)))) (gC (.int 977))) (gC (.int 3))) (zaw (zab 2) (zap false .mod (zab 1) (gC (.int 13)))))) (zae (zax (.one 4) (zap false .mod (zap false .pow (zap false .add (zap false .add (zap false .mul (zab 3) (zap false .add (zab 1) (gC (.int 3)))) (zap false .mod (zab 0) (gC (.int 65537)))) (gC (.int 5))) (gC (.int 5))) (zaw (zab 2) (zap false .mod (zap false .add (zab 1) (gC (.int 5))) (gC (.int 13)))))) (zae (zax (.one 5) (zap false .mod (zap false .pow (zap false .add (zap false .add (zab 4) (zap false .mod (zab 3) (gC (.int 1009)))) (zab 1)) (gC (.int 3))) (zaw (zab 2) (zap false .mod (zap false .add (zab 1) (gC (.int 7))) (gC (.int 13)))))) (zae (zas (zap false .add (zap false .mul (zap false .add (zap false .mul (zab 3) (gC (.int 2147483647))) (zab 4)) (gC (.int 2147483647))) (zab 5))) (zaj)))))))
def zgt (c : Call) : GS := zae (zax (.one 1) (zbe (.list true) (zaa (zdc false false true (zab 0) (gC .non) (gC (.int 12))) (zag)))) (zae (zd1 (.tup [2, 3]) (zg7 (zdc false true true (zab 0) (gC (.int 12)) (gC (.int 63)))) (zae (zfa (zab 1) (zap false .mod (zab 2) (gC (.int 12))) (zap false .add (zaw (zab 1) (zap false .mod (zab 2) (gC (.int 12)))) (zab 3))) (zaj))) (zae (zas (zbw true (zaa (zab 1) (zaa (gC (.int 0)) (zaa (gC (.int 0)) (zag)))))) (zaj)))
def zgv (c : Call) : GS := zae (zfa (zab 0) (gC (.int 2)) (gC (.int 0))) (zae (zas (zab 0)) (zaj))
def zh7 (c : Call) : GS := zae (za2 (zar (za4 .lt (zaw (zab 0) (gC (.int 2))) (zab 1))) (zae (zax (.one 2) (zaw (zab 0) (gC (.int 1)))) (zae (zax (.one 3) (gC (.int 0))) (zae (za2 (zar (za4 .lt (zab 2) (zbe .len (zaa (zaw (zab 0) (gC (.int 0))) (zag))))) (zae (zax (.one 3) (zaw (zaw (zab 0) (gC (.int 0))) (zab 2))) (zaj)) (zae (za2 (zar (za4 .gt (zbe .len (zaa (zaw (zab 0) (gC (.int 0))) (zag))) (gC (.int 0)))) (zae (zax (.one 3) (zap false .mod (zaw (zaw (zab 0) (gC (.int 0))) (zap false .mod (zap false .add (zap false .mul (zab 2) (gC (.int 5))) (gC (.int 3))) (zbe .len (zaa (zaw (zab 0) (gC (.int 0))) (zag))))) (zap false .add (zap false .pow (gC (.int 10)) (gC (.int 17))) (zab 2)))) (zaj)) (zaj)) (zaj))) (zae (zfa (zab 0) (gC (.int 1)) (zap false .add (zab 2) (gC (.int 1)))) (zae (zfa (zab 0) (gC (.int 2)) (zam 28 c (zaa (zab 3) (zaa (zab 2) (zag))))) (zaj)))))) (zaj)) (zae (zax (.one 4) (zap false .mod (zaw (zab 0) (gC (.int 2))) (zab 1))) (zae (zfa (zab 0) (gC (.int 2)) (zap false .fdiv (zaw (zab 0) (gC (.int 2))) (zab 1))) (zae (zas (zab 4)) (zaj))))
def zha (c : Call) : GS := zae (zax (.one 2) (zam 31 c (zaa (zab 0) (zaa (gC (.int 6)) (zag))))) (zae (zax (.one 3) (zam 31 c (zaa (zab 0) (zaa (zab 1) (zag))))) (zae (zax (.one 4) (zam 31 c (zaa (zab 0) (zaa (zab 1) (zag))))) (zae (za2 (zar (za4 .lt (zab 2) (gC (.int 2)))) (zae (zas (zbe .tuple (zaa (zb7 false 1 (.one 0) (zd4 (zab 1)) (zci (zam 31 c (zaa (zab 1) (zaa (zab 2) (zag)))))) (zag)))) (zaj)) (zaj)) (zae (za2 (zar (za4 .eq (zab 2) (gC (.int 2)))) (zae (zas (zbe .tuple (zaa (zb7 false 1 (.one 0) (zd4 (zab 1)) (zci (zap false .mod (zap false .add (zap false .add (zab 0) (gC (.int 1))) (zab 4)) (zab 2)))) (zag)))) (zaj)) (zaj)) (zae (za2 (zar (za4 .eq (zab 2) (gC (.int 3)))) (zae (zas (zbe .tuple (zaa (zb7 false 1 (.one 0) (zd4 (zab 1)) (zci (zjg (zar (za4 .eq (zab 0) (zab 4))) (zab 5) (zab 0)))) (zag)))) (zaj)) (zaj)) (zae (za2 (zar (za4 .eq (zab 2) (gC (.int 4)))) (zae (zas (zap false .mul (za3 (zaa (zab 3) (zag))) (zab 1))) (zaj)) (zaj)) (zae (zax (.one 5) (zjf true (zab 1))) (zae (zfa (zab 5) (zab 3) (zab 4)) (zae (zfa (zab 5) (zab 4) (zab 3)) (zae (zas (zbe .tuple (zaa (zab 5) (zag)))) (zaj)))))))))))
def zgu (c : Call) : GS := zae (zax (.one 3) (zam 31 c (zaa (zab 0) (zaa (gC (.int 8)) (zag))))) (zae (zax (.one 4) (zap false .add (gC (.int 1)) (zam 31 c (zaa (zab 0) (zaa (gC (.int 3)) (zag)))))) (zae (zax (.one 5) (zam 31 c (zaa (zab 0) (zaa (zab 2) (zag))))) (zae (zax (.one 6) (zam 31 c (zaa (zab 0) (zaa (zab 2) (zag))))) (zae (za2 (zar (za4 .lt (zab 3) (gC (.int 3)))) (zae (zas (za3 (zaa (gC (.str "turn")) (zaa (zab 5) (zaa (zam 32 c (zaa (zab 0) (zaa (zab 1) (zag)))) (zaa (zab 4) (zag))))))) (zaj)) (zaj)) (zae (za2 (zar (za4 .lt (zab 3) (gC (.int 5)))) (zae (zas (za3 (zaa (gC (.str "move")) (zaa (zab 5) (zaa (zjg (zar (za4 .eq (zab 3) (gC (.int 3)))) (zap false .mod (zap false .add (zab 5) (gC (.int 1))) (zab 2)) (zab 6)) (zaa (zab 4) (zag))))))) (zaj)) (zaj)) (zae (za2 (zar (za4 .eq (zab 3) (gC (.int 5)))) (zae (zas (za3 (zaa (gC (.str "put")) (zaa (zab 5) (zaa (zam 31 c (zaa (zab 0) (zaa (zab 1) (zag)))) (zaa (zab 4) (zag))))))) (zaj)) (zaj)) (zae (zas (za3 (zaa (gC (.str "join")) (zaa (zab 5) (zaa (zab 6) (zaa (zbe .tuple (zaa (zb7 false 1 (.one 0) (zd4 (zab 1)) (zci (zam 32 c (zaa (zab 1) (zaa (zab 2) (zag)))))) (zag))) (zaa (zab 4) (zag)))))))) (zaj))))))))
def zfv (c : Call) : GS := zae (zax (.one 1) (zap false .add (gC (.int 2)) (zam 31 c (zaa (zab 0) (zaa (zap false .sub (zab 1) (gC (.int 1))) (zag)))))) (zae (zax (.one 2) (zap false .add (gC (.int 1)) (zam 31 c (zaa (zab 0) (zaa (zab 2) (zag)))))) (zae (zax (.one 4) (zbw true (zag))) (zae (zd1 (.one 5) (zd4 (zap false .add (gC (.int 1)) (zam 31 c (zaa (zab 0) (zaa (zab 3) (zag)))))) (zae (zax (.one 6) (zam 31 c (zaa (zab 0) (zaa (gC (.int 5)) (zag))))) (zae (zax (.one 7) (zam 33 c (zaa (zab 0) (zaa (zab 1) (zaa (zab 2) (zag)))))) (zae (za2 (zgm (zar (za4 .eq (zab 6) (gC (.int 0)))) (zar (za4 .ne (zab 4) (zbw false (zag))))) (zae (zax (.one 7) (zap false .add (zdc false false true (zaw (zab 4) (zam 31 c (zaa (zab 0) (zaa (zbe .len (zaa (zab 4) (zag))) (zag))))) (gC .non) (zfb (gC (.int 1)))) (za3 (zaa (zaw (zab 7) (zfb (gC (.int 1)))) (zag))))) (zaj)) (zaj)) (zae (ziq (zab 4) (zab 7)) (zaj)))))) (zae (zas (za3 (zaa (zab 1) (zaa (zab 2) (zaa (zbe .tuple (zaa (zab 4) (zag))) (zag)))))) (zaj)))))
def zlw (c : Call) : GS := zae (zax (.one 3) (zam 31 c (zaa (zab 0) (zaa (gC (.int 4)) (zag))))) (zae (zax (.one 4) (zjg (zar (za4 .eq (zab 3) (gC (.int 0)))) (zab 2) (zam 31 c (zaa (zab 0) (zaa (zap false .add (zab 2) (gC (.int 1))) (zag)))))) (zae (zax (.one 5) (zb7 false 1 (.one 0) (zd4 (zab 4)) (zci (zam 31 c (zaa (zab 1) (zaa (zbe .len (zaa (zaw (zab 2) (gC (.int 2))) (zag))) (zag))))))) (zae (za2 (zar (za4 .eq (zab 3) (gC (.int 1)))) (zae (zax (.one 5) (zdc false false true (zap false .mul (zdc false false true (zab 5) (gC .non) (gC (.int 2))) (zab 4)) (gC .non) (zab 4))) (zaj)) (zaj)) (zae (zas (zab 5)) (zaj)))))
def zpv (c : Call) : GS := zae (zax (.one 3) (zap false .add (zab 1) (zab 2))) (zae (za2 (zar (za4 .ne (zam 19 c (zaa (zab 0) (zaa (zab 3) (zag)))) (zap false .add (zam 19 c (zaa (zab 0) (zaa (zab 1) (zag)))) (zam 19 c (zaa (zab 0) (zaa (zab 2) (zag))))))) (zae (zas (gC (.bl false))) (zaj)) (zaj)) (zae (zax (.one 4) (zbw true (zag))) (zae (zd1 (.one 5) (zd5 (zam 15 c (zaa (zab 0) (zag)))) (zae (zax (.one 6) (zam 26 c (zaa (zab 0) (zaa (zbe (.list false) (zaa (zab 1) (zag))) (zaa (zab 5) (zag)))))) (zae (zax (.one 7) (zam 26 c (zaa (zab 0) (zaa (zbe (.list false) (zaa (zab 2) (zag))) (zaa (zaw (zab 6) (zfb (gC (.int 1)))) (zag)))))) (zae (zax (.one 8) (zam 26 c (zaa (zab 0) (zaa (zbe (.list false) (zaa (zab 3) (zag))) (zaa (zab 5) (zag)))))) (zae (za2 (tOr (zar (za4 .ne (zab 8) (zap false .add (zab 6) (zdc false true false (zab 7) (gC (.int 1)) (gC .non))))) (tOr (zar (za4 .ne (zbe .len (zaa (zab 8) (zag))) (zap false .add (zbe .len (zaa (zab 3) (zag))) (gC (.int 1))))) (zar (za4 .ne (zaw (zab 8) (gC (.int 0))) (zab 5))))) (zae (zas (gC (.bl false))) (zaj)) (zaj)) (zae (ziq (zab 4) (zaw (zab 8) (zfb (gC (.int 1))))) (zaj))))))) (zae (zas (za4 .eq (zbe .tuple (zaa (zab 4) (zag))) (zam 27 c (zaa (zab 0) (zaa (zab 3) (zag)))))) (zaj)))))
def b_law (c : Call) : GS := zae (zax (.one 1) (zam 29 c (zaa (zab 0) (zag)))) (zae (zd1 (.one 2) (zd4 (gC (.int 4))) (zae (zax (.one 3) (zam 34 c (zaa (zam 30 c (zaa (zab 1) (zag))) (zaa (gC (.int 4)) (zaa (gC (.int 2)) (zaa (gC (.int 6)) (zag))))))) (zae (zax (.one 4) (zam 35 c (zaa (zab 1) (zaa (zab 3) (zaa (gC (.int 8)) (zag)))))) (zae (zax (.one 5) (zam 35 c (zaa (zab 1) (zaa (zab 3) (zaa (gC (.int 8)) (zag)))))) (zae (zax (.one 6) (zam 31 c (zaa (zab 1) (zaa (zap false .add (zbe .len (zaa (zab 4) (zag))) (gC (.int 1))) (zag))))) (zae (zd1 (.tup [7, 8]) (zd5 (zbw false (zaa (za3 (zaa (zab 4) (zaa (zab 5) (zag)))) (zaa (za3 (zaa (zdc false false true (zab 4) (gC .non) (zab 6)) (zaa (zdc false true false (zab 4) (zab 6) (gC .non)) (zag)))) (zaa (za3 (zaa (zbw false (zag)) (zaa (zab 5) (zag)))) (zaa (za3 (zaa (zab 5) (zaa (zbw false (zag)) (zag)))) (zag))))))) (zae (za2 (zb3 (zar (zam 36 c (zaa (zab 3) (zaa (zab 7) (zaa (zab 8) (zag))))))) (zae (zas (gC (.bl false))) (zaj)) (zaj)) (zaj))) (zaj))))))) (zae (zas (gC (.bl true))) (zaj)))
def zfz (c : Call) : GS := zae (za2 (zar (za4 .isN (zab 1) (gC .non))) (zae (zas (za4 .isN (zab 0) (gC .non))) (zaj)) (zaj)) (zae (za2 (tOr (zar (zb6 .bool (zab 1))) (zar (zb6 .bool (zab 0)))) (zae (zas (zd2 (zb6 .bool (zab 1)) (zd2 (zb6 .bool (zab 0)) (za4 .eq (zab 0) (zab 1))))) (zaj)) (zaj)) (zae (za2 (zar (zb6 .int (zab 1))) (zae (zas (zd2 (zb6 .int (zab 0)) (za4 .eq (zab 0) (zab 1)))) (zaj)) (zaj)) (zae (za2 (zar (zb6 .str (zab 1))) (zae (zas (zd2 (zb6 .str (zab 0)) (za4 .eq (zab 0) (zab 1)))) (zaj)) (zaj)) (zae (za2 (tOr (zar (za4 .ne (zb6 .tuple (zab 1)) (zb6 .tuple (zab 0)))) (zar (za4 .ne (zb6 .list (zab 1)) (zb6 .list (zab 0))))) (zae (zas (gC (.bl false))) (zaj)) (zaj)) (zae (za2 (zar (za4 .ne (zbe .len (zaa (zab 0) (zag))) (zbe .len (zaa (zab 1) (zag))))) (zae (zas (gC (.bl false))) (zaj)) (zaj)) (zae (zas (za4 .notin (gC (.bl false)) (zb7 false 2 (.tup [0, 1]) (zlp (zab 0) (zab 1)) (zci (zam 40 c (zaa (zab 0) (zaa (zab 1) (zag)))))))) (zaj)))))))
def zpw (c : Call) : GS := zae (zax (.one 2) (zbe (.list true) (zaa (zab 1) (zag)))) (zae (zax (.one 3) (zaw (zab 1) (zaw (zab 0) (gC (.int 1))))) (zae (za2 (zar (za4 .eq (zaw (zab 0) (gC (.int 0))) (gC (.str "turn")))) (zae (zfa (zab 2) (zaw (zab 0) (gC (.int 1))) (zaw (zaw (zab 0) (gC (.int 2))) (zab 3))) (zaj)) (zaj)) (zae (za2 (zar (za4 .eq (zaw (zab 0) (gC (.int 0))) (gC (.str "join")))) (zae (zfa (zab 2) (zaw (zab 0) (gC (.int 1))) (zaw (zaw (zaw (zab 0) (gC (.int 3))) (zab 3)) (zaw (zab 1) (zaw (zab 0) (gC (.int 2)))))) (zaj)) (zaj)) (zae (za2 (zar (za4 .eq (zaw (zab 0) (gC (.int 0))) (gC (.str "move")))) (zae (zfa (zab 2) (zaw (zab 0) (gC (.int 1))) (zaw (zab 1) (zaw (zab 0) (gC (.int 2))))) (zaj)) (zaj)) (zae (za2 (zar (za4 .eq (zaw (zab 0) (gC (.int 0))) (gC (.str "put")))) (zae (zfa (zab 2) (zaw (zab 0) (gC (.int 1))) (zaw (zab 0) (gC (.int 2)))) (zaj)) (zaj)) (zae (zas (zbe .tuple (zaa (zab 2) (zag)))) (zaj)))))))
def znt (c : Call) : GS := zae (za2 (zar (za4 .eq (zaw (zab 0) (gC (.int 1))) (gC (.int 1)))) (zae (zas (zb7 false 1 (.one 0) (zd4 (zaw (zab 0) (gC (.int 0)))) (zci (za3 (zaa (zab 0) (zag)))))) (zaj)) (zaj)) (zae (zas (zb7 false 1 (.one 0) (zd4 (zap false .mul (zaw (zab 0) (gC (.int 0))) (zaw (zab 0) (gC (.int 0))))) (zci (za3 (zaa (zap false .fdiv (zab 0) (zaw (zab 1) (gC (.int 0)))) (zaa (zap false .mod (zab 0) (zaw (zab 1) (gC (.int 0)))) (zag))))))) (zaj))
def zqc (c : Call) : GS := zae (zax (.one 2) (zbw true (zag))) (zae (zd1 (.one 3) (zd5 (zam 42 c (zaa (zab 0) (zag)))) (zae (zd1 (.one 4) (zd5 (zab 1)) (zae (zax (.one 3) (zam 41 c (zaa (zaw (zaw (zab 0) (gC (.int 2))) (zab 4)) (zaa (zab 3) (zag))))) (zaj))) (zae (ziq (zab 2) (zab 3)) (zaj)))) (zae (zas (zbe .tuple (zaa (zab 2) (zag)))) (zaj)))
def zng (c : Call) : GS := zae (zas (zbe .tuple (zaa (zb7 false 1 (.one 0) (zd5 (zam 15 c (zaa (zab 0) (zag)))) (zci (zaw (zam 25 c (zaa (zab 1) (zaa (zab 2) (zaa (zab 0) (zag))))) (zfb (gC (.int 1)))))) (zag)))) (zaj)
def znq (c : Call) : GS := zae (zas (zbe .sum (zaa (zb7 false 1 (.one 0) (zd5 (zab 1)) (zci (zaw (zaw (zaw (zab 1) (gC (.int 2))) (zab 0)) (zfb (gC (.int 1)))))) (zag)))) (zaj)
def zv3 (c : Call) : GS := zae (zax (.one 3) (zam 27 c (zaa (zab 0) (zaa (zab 1) (zag))))) (zae (zax (.one 4) (zam 27 c (zaa (zab 0) (zaa (zab 2) (zag))))) (zae (zd1 (.tup [5, 6, 7]) (zrw (zam 15 c (zaa (zab 0) (zag))) (zab 3) (zab 4)) (zae (za2 (zar (za4 .ne (zab 6) (zab 7))) (zae (zas (zab 5)) (zaj)) (zaj)) (zaj))) (zae (zas (gC .non)) (zaj))))
def zjo (c : Call) : GS := zae (zax (.one 2) (zap false .add (zb7 false 1 (.one 0) (zd4 (gC (.int 9))) (zci (zam 35 c (zaa (zab 1) (zaa (zab 2) (zaa (gC (.int 3)) (zag))))))) (zbw false (zaa (zbw false (zag)) (zaa (zbw false (zaa (gC (.int 0)) (zag))) (zag)))))) (zae (zax (.one 3) (zbw true (zaa (za3 (zaa (zaw (zab 2) (gC (.int 0))) (zaa (zbe (.list false) (zaa (zaw (zab 2) (gC (.int 0))) (zag))) (zag)))) (zag)))) (zae (zd1 (.tup [4, 5]) (zg7 (zab 2)) (zae (zd1 (.one 6) (zd5 (zdc false false true (zab 2) (gC .non) (zab 4))) (zae (za2 (zgm (zar (za4 .ne (zab 5) (zab 6))) (zar (za4 .eq (zam 44 c (zaa (zab 1) (zaa (zab 5) (zag)))) (zam 44 c (zaa (zab 1) (zaa (zab 6) (zag))))))) (zae (ziq (zab 3) (za3 (zaa (zab 5) (zaa (zbe (.list false) (zaa (zab 6) (zag))) (zag))))) (zaj)) (zaj)) (zaj))) (zaj))) (zae (zas (zab 3)) (zaj))))
def zv5 (c : Call) : GS := zae (zae (sEx (zam 18 c (zaa (zab 0) (zaa (zab 1) (zag))))) (zaj)) (zae (zas (gC (.bl true))) (zaj))
def zt6 (c : Call) : GS := zae (za2 (zb3 (zar (zam 4 c (zaa (gC (.int 2)) (zaa (zab 1) (zag)))))) (zae (zas (gC (.bl false))) (zaj)) (zaj)) (zae (zax (.tup [2, 3]) (zab 1)) (zae (zas (zd2 (zam 52 c (zaa (zab 0) (zaa (zab 2) (zag)))) (zd2 (zam 52 c (zaa (zab 0) (zaa (zab 3) (zag)))) (za4 .isN (zam 48 c (zaa (zab 0) (zaa (zab 2) (zaa (zab 3) (zag))))) (gC .non))))) (zaj)))
def zpu (c : Call) : GS := zae (sEx (zam 13 c (zaa (zab 0) (zag)))) (zae (zd1 (.tup [2, 3]) (zg7 (zab 1)) (zae (za2 (zb3 (zar (zam 53 c (zaa (zab 0) (zaa (zab 3) (zag)))))) (zae (zja) (zaj)) (zaj)) (zaj))) (zaj))
def znr (c : Call) : GS := zae (zax (.tup [3, 4, 5]) (zab 2)) (zae (za2 (tOr (zb3 (zar (zam 0 c (zaa (zab 3) (zaa (gC (.int 0)) (zaa (zbe .len (zaa (zab 1) (zag))) (zag))))))) (zb3 (zar (zam 0 c (zaa (zab 4) (zaa (gC (.int 0)) (zaa (zap false .sub (zbe .len (zaa (zab 0) (zag))) (gC (.int 1))) (zag)))))))) (zae (zas (gC .non)) (zaj)) (zaj)) (zae (zax (.tup [6, 7]) (zaw (zab 0) (zab 4))) (zae (za2 (zar (zab 5)) (zae (sPar 6 7 (zaa (zab 7) (zaa (zab 6) (zag)))) (zaj)) (zaj)) (zae (zax (.one 8) (zap false .add (zab 3) (zbe .len (zaa (zab 6) (zag))))) (zae (za2 (zar (za4 .ne (zdc false true true (zab 1) (zab 3) (zab 8)) (zab 6))) (zae (zas (gC .non)) (zaj)) (zaj)) (zae (zax (.one 9) (zap true .add (zap false .add (zdc false false true (zab 1) (gC .non) (zab 3)) (zab 7)) (zdc false true false (zab 1) (zab 8) (gC .non)))) (zae (zas (zjg (zar (za4 .le (zbe .len (zaa (zab 9) (zag))) (gC (.int 40)))) (zab 9) (gC .non))) (zaj))))))))
def zt5 (c : Call) : GS := zae (sEx (zam 18 c (zaa (zab 0) (zaa (zab 2) (zag))))) (zae (sEx (zam 54 c (zaa (zab 0) (zaa (zab 1) (zag))))) (zae (zax (.one 4) (zbe (.list true) (zaa (zab 2) (zag)))) (zae (zd1 (.tup [5, 6]) (zg7 (zab 3)) (zae (zax (.one 7) (zam 55 c (zaa (zab 1) (zaa (zab 4) (zaa (zab 6) (zag)))))) (zae (za2 (zar (za4 .isN (zab 7) (gC .non))) (zae (zja) (zaj)) (zaj)) (zae (zax (.one 4) (zab 7)) (zaj))))) (zae (zas (zab 4)) (zaj)))))
def zns (c : Call) : GS := zae (zas (zb7 false 2 (.tup [0, 1]) (zd5 (zab 0)) (zci (za3 (zaa (zbe (.list false) (zaa (zab 0) (zag))) (zaa (zbe (.list false) (zaa (zab 1) (zag))) (zag))))))) (zaj)
def zed (c : Call) : GS := zae (zax (.one 2) (gC (.str " !\"#$&'()*+,-./0123456789:;<=>?@ABCDEFGHIJKLMNOPQRSTUVWXYZ[\\]^_`"))) (zae (zax (.one 2) (zap false .add (zab 2) (gC (.str "abcdefghijklmnopqrstuvwxyz{|}~\t\n")))) (zae (zax (.one 3) (zb7 false 1 (.one 0) (zlq (zab 2)) (gIf (zar (za4 .notin (zab 0) (zab 2))) (zci (zab 0))))) (zae (zas (zaw (zab 3) (zam 31 c (zaa (zab 0) (zaa (zbe .len (zaa (zab 3) (zag))) (zag)))))) (zaj))))
def zee (c : Call) : GS := zae (zas (zam 64 c (zaa (zab 0) (zaa (gC (.str "")) (zag))))) (zaj)
def ze6 (c : Call) : GS := zae (zax (.one 2) (zam 31 c (zaa (zab 0) (zaa (zap false .add (zbe .len (zaa (zab 1) (zag))) (gC (.int 1))) (zag))))) (zae (zas (zap false .add (zap false .add (zjx false true (zab 1) (gC .non) (zab 2)) (zam 65 c (zaa (zab 0) (zag)))) (zjx true false (zab 1) (zap false .add (zab 2) (zam 31 c (zaa (zab 0) (zaa (gC (.int 2)) (zag))))) (gC .non)))) (zaj))
def zff (c : Call) : GS := zae (zas (zd2 (zb6 .int (zab 0)) (gNot (zb6 .bool (zab 0))))) (zaj)
def zfl (c : Call) : GS := zae (zas (zd2 (zam 67 c (zaa (zab 0) (zag))) (zh5 .le .le (zab 1) (zab 0) (zab 2)))) (zaj)
def zem (c : Call) : GS := zae (za2 (tOr (zb3 (zar (zb6 .tuple (zab 0)))) (zar (za4 .ne (zbe .len (zaa (zab 0) (zag))) (zab 1)))) (zae (zas (gC (.bl false))) (zaj)) (zaj)) (zae (zas (za4 .eq (zb7 false 1 (.one 0) (zd5 (zab 0)) (gIf (zb3 (zar (zam 68 c (zaa (zab 0) (zaa (zab 3) (zaa (zab 4) (zag))))))) (zci (gC (.int 1))))) (zbw false (zag)))) (zaj))
def zbf (c : Call) : GS := zae (za2 (tOr (zb3 (zar (zb6 .tuple (zab 0)))) (zar (za4 .notin (zbe .len (zaa (zab 0) (zag))) (za3 (zaa (gC (.int 4)) (zaa (gC (.int 5)) (zag))))))) (zae (zas (gC (.bl false))) (zaj)) (zaj)) (zae (za2 (tOr (zar (za4 .notin (zaw (zab 0) (gC (.int 0))) (za3 (zaa (gC (.str "turn")) (zaa (gC (.str "join")) (zaa (gC (.str "move")) (zaa (gC (.str "put")) (zag)))))))) (zar (za4 .ne (za4 .eq (zbe .len (zaa (zab 0) (zag))) (gC (.int 5))) (za4 .eq (zaw (zab 0) (gC (.int 0))) (gC (.str "join")))))) (zae (zas (gC (.bl false))) (zaj)) (zaj)) (zae (za2 (tOr (zb3 (zar (zam 69 c (zaa (za3 (zaa (zaw (zab 0) (gC (.int 1))) (zag))) (zaa (gC (.int 1)) (zaa (gC (.int 0)) (zaa (zap false .sub (zab 2) (gC (.int 1))) (zag)))))))) (zb3 (zar (zam 68 c (zaa (zaw (zab 0) (zfb (gC (.int 1)))) (zaa (gC (.int 1)) (zaa (gC (.int 3)) (zag)))))))) (zae (zas (gC (.bl false))) (zaj)) (zaj)) (zae (za2 (zar (za4 .eq (zaw (zab 0) (gC (.int 0))) (gC (.str "turn")))) (zae (zas (zam 69 c (zaa (zaw (zab 0) (gC (.int 2))) (zaa (zab 1) (zaa (gC (.int 0)) (zaa (zap false .sub (zab 1) (gC (.int 1))) (zag))))))) (zaj)) (zaj)) (zae (za2 (zar (za4 .eq (zaw (zab 0) (gC (.int 0))) (gC (.str "put")))) (zae (zas (zam 68 c (zaa (zaw (zab 0) (gC (.int 2))) (zaa (gC (.int 0)) (zaa (zap false .sub (zab 1) (gC (.int 1))) (zag)))))) (zaj)) (zaj)) (zae (za2 (zb3 (zar (zam 68 c (zaa (zaw (zab 0) (gC (.int 2))) (zaa (gC (.int 0)) (zaa (zap false .sub (zab 2) (gC (.int 1))) (zag))))))) (zae (zas (gC (.bl false))) (zaj)) (zaj)) (zae (za2 (zar (za4 .eq (zaw (zab 0) (gC (.int 0))) (gC (.str "move")))) (zae (zas (gC (.bl true))) (zaj)) (zaj)) (zae (za2 (tOr (zb3 (zar (zb6 .tuple (zaw (zab 0) (gC (.int 3)))))) (zar (za4 .ne (zbe .len (zaa (zaw (zab 0) (gC (.int 3))) (zag))) (zab 1)))) (zae (zas (gC (.bl false))) (zaj)) (zaj)) (zae (zas (za4 .eq (zb7 false 1 (.one 0) (zd5 (zaw (zab 0) (gC (.int 3)))) (gIf (zb3 (zar (zam 69 c (zaa (zab 0) (zaa (zab 2) (zaa (gC (.int 0)) (zaa (zap false .sub (zab 2) (gC (.int 1))) (zag)))))))) (zci (gC (.int 1))))) (zbw false (zag)))) (zaj)))))))))
def zds (c : Call) : GS := zae (za2 (tOr (zb3 (zar (zb6 .tuple (zab 0)))) (tOr (zar (za4 .ne (zbe .len (zaa (zab 0) (zag))) (gC (.int 3)))) (zb3 (zar (zam 68 c (zaa (zaw (zab 0) (gC (.int 0))) (zaa (gC (.int 2)) (zaa (gC (.int 4)) (zag))))))))) (zae (zas (gC (.bl false))) (zaj)) (zaj)) (zae (za2 (tOr (zb3 (zar (zam 68 c (zaa (zaw (zab 0) (gC (.int 1))) (zaa (gC (.int 1)) (zaa (gC (.int 2)) (zag))))))) (tOr (zb3 (zar (zb6 .tuple (zaw (zab 0) (gC (.int 2)))))) (zb3 (zar (zh5 .le .le (gC (.int 1)) (zbe .len (zaa (zaw (zab 0) (gC (.int 2))) (zag))) (gC (.int 6))))))) (zae (zas (gC (.bl false))) (zaj)) (zaj)) (zae (zas (za4 .eq (zb7 false 1 (.one 0) (zd5 (zaw (zab 0) (gC (.int 2)))) (gIf (zb3 (zar (zam 70 c (zaa (zab 0) (zaa (zaw (zab 1) (gC (.int 0))) (zaa (zaw (zab 1) (gC (.int 1))) (zag))))))) (zci (gC (.int 1))))) (zbw false (zag)))) (zaj)))
def zh8 (c : Call) : GS := zae (zax (.one 3) (zam 31 c (zaa (zab 0) (zaa (gC (.int 8)) (zag))))) (zae (zax (.one 4) (zam 31 c (zaa (zab 0) (zaa (gC (.int 20)) (zag))))) (zae (zax (.one 5) (zap false .sub (zam 31 c (zaa (zab 0) (zaa (gC (.int 9)) (zag)))) (gC (.int 2)))) (zae (za2 (zgm (zar (zb6 .tuple (zab 1))) (zgm (zar (za4 .ne (zab 1) (za3 (zag)))) (zgm (zar (za4 .gt (zab 2) (gC (.int 0)))) (zar (za4 .gt (zab 4) (gC (.int 4))))))) (zae (zax (.one 6) (zam 31 c (zaa (zab 0) (zaa (zbe .len (zaa (zab 1) (zag))) (zag))))) (zae (zas (zap false .add (zap false .add (zdc false false true (zab 1) (gC .non) (zab 6)) (za3 (zaa (zam 72 c (zaa (zab 0) (zaa (zaw (zab 1) (zab 6)) (zaa (zap false .sub (zab 2) (gC (.int 1))) (zag))))) (zag)))) (zdc false true false (zab 1) (zap false .add (zab 6) (gC (.int 1))) (gC .non)))) (zaj))) (zaj)) (zae (zax (.one 7) (zbw false (zaa (gC .non) (zaa (gC (.bl true)) (zaa (gC (.bl false)) (zaa (gC (.str "")) (zaa (gC (.str "turn")) (zaa (gC (.str "join")) (zaa (gC (.str "move")) (zaa (gC (.str "put")) (zaa (gC (.str "Turn")) (zaa (za3 (zag)) (zaa (zbw false (zag)) (zaa (zap false .pow (gC (.int 10)) (gC (.int 20))) (zaa (zfb (gC (.int 1))) (zaa (gC (.int 0)) (zag))))))))))))))))) (zae (zax (.one 7) (zap false .add (zab 7) (zbw false (zaa (gC (.int 1)) (zaa (gC (.int 4)) (zaa (za3 (zaa (gC (.int 0)) (zag))) (zaa (zbw false (zaa (gC (.int 0)) (zag))) (zaa (gC (.str "0")) (zaa (gC (.int 7)) (zag)))))))))) (zae (za2 (zar (zb6 .tuple (zab 1))) (zae (zax (.one 8) (zbw false (zaa (zbe (.list false) (zaa (zab 1) (zag))) (zaa (zap false .add (zab 1) (zdc false false true (zab 1) (gC .non) (gC (.int 1)))) (zaa (zdc false false true (zab 1) (gC .non) (zfb (gC (.int 1)))) (zaa (gRev false (zab 1)) (zaa (zap false .add (zab 1) (za3 (zaa (zab 5) (zag)))) (zaa (zdc false true false (zab 1) (gC (.int 1)) (gC .non)) (zaa (za3 (zaa (zab 1) (zag))) (zag)))))))))) (zae (zas (zaw (zap false .add (zab 8) (zbw false (zaa (zaw (zab 7) (zab 4)) (zag)))) (zab 3))) (zaj))) (zaj)) (zae (za2 (zar (zam 67 c (zaa (zab 1) (zag)))) (zae (zas (zaw (zbw false (zaa (zap false .add (zab 1) (gC (.int 1))) (zaa (zap false .sub (zab 1) (gC (.int 1))) (zaa (zap false .sub (gC (.int 0)) (zab 1)) (zaa (zab 5) (zaa (zab 5) (zaa (za4 .eq (zab 1) (gC (.int 1))) (zaa (zap false .sub (gC (.int 3)) (zab 1)) (zaa (zaw (zab 7) (zab 4)) (zag)))))))))) (zab 3))) (zaj)) (zaj)) (zae (za2 (zgm (zar (zb6 .str (zab 1))) (zar (za4 .lt (zab 3) (gC (.int 3))))) (zae (zas (zam 66 c (zaa (zab 0) (zaa (zab 1) (zag))))) (zaj)) (zaj)) (zae (zas (zaw (zab 7) (zab 4))) (zaj))))))))))
def zj5 (c : Call) : GS := zae (zax (.one 1) (zam 29 c (zaa (zab 0) (zag)))) (zae (zd1 (.one 2) (zd4 (gC (.int 6))) (zae (zax (.one 3) (zam 34 c (zaa (zam 30 c (zaa (zab 1) (zag))) (zaa (gC (.int 4)) (zaa (gC (.int 2)) (zaa (gC (.int 6)) (zag))))))) (zae (za2 (zar (zjy (zam 12 c (zaa (zab 3) (zag))) (gC (.bl true)))) (zae (zas (gC (.bl false))) (zaj)) (zaj)) (zae (zd1 (.one 4) (zd4 (gC (.int 5))) (zae (zax (.one 5) (zam 72 c (zaa (zab 1) (zaa (zab 3) (zaa (gC (.int 5)) (zag)))))) (zae (za2 (zar (za4 .gt (zab 4) (gC (.int 2)))) (zae (zax (.one 5) (zam 72 c (zaa (zab 1) (zaa (zab 5) (zaa (gC (.int 5)) (zag)))))) (zaj)) (zaj)) (zae (za2 (zb3 (zar (zam 40 c (zaa (zam 12 c (zaa (zab 5) (zag))) (zaa (zam 71 c (zaa (zab 5) (zag))) (zag)))))) (zae (zas (gC (.bl false))) (zaj)) (zaj)) (zaj))))) (zaj))))) (zae (zax (.one 6) (za3 (zaa (gC (.str "put")) (zaa (gC (.int 0)) (zaa (gC (.int 0)) (zaa (gC (.int 1)) (zag))))))) (zae (zax (.one 7) (zbw false (zaa (gC .non) (zaa (gC (.int 7)) (zaa (gC (.str "2 1")) (zaa (za3 (zag)) (zaa (zbw false (zag)) (zaa (za3 (zaa (gC (.int 2)) (zaa (gC (.int 1)) (zaa (za3 (zag)) (zag))))) (zaa (za3 (zaa (gC (.int 2)) (zaa (gC (.int 1)) (zaa (zap false .mul (za3 (zaa (zab 6) (zag))) (gC (.int 6))) (zag))))) (zaa (za3 (zaa (gC (.int 2)) (zaa (gC (.int 1)) (zaa (zap false .mul (za3 (zaa (zab 6) (zag))) (gC (.int 7))) (zag))))) (zaa (za3 (zaa (gC (.int 5)) (zaa (gC (.int 1)) (zaa (za3 (zaa (zab 6) (zag))) (zag))))) (zag)))))))))))) (zae (zax (.one 7) (zap false .add (zab 7) (zbw false (zaa (za3 (zaa (gC (.int 1)) (zaa (gC (.int 1)) (zaa (za3 (zaa (zab 6) (zag))) (zag))))) (zaa (za3 (zaa (gC (.int 2)) (zaa (gC (.int 3)) (zaa (za3 (zaa (zab 6) (zag))) (zag))))) (zaa (za3 (zaa (gC (.int 2)) (zaa (gC (.int 0)) (zaa (za3 (zaa (zab 6) (zag))) (zag))))) (zaa (za3 (zaa (gC (.bl true)) (zaa (gC (.int 1)) (zaa (za3 (zaa (zab 6) (zag))) (zag))))) (zaa (za3 (zaa (gC (.int 2)) (zaa (gC (.int 1)) (zaa (zbw false (zaa (zab 6) (zag))) (zag))))) (zag))))))))) (zae (zd1 (.one 5) (zd5 (zap false .add (zab 7) (zbw false (zaa (za3 (zaa (gC (.int 2)) (zaa (gC (.int 1)) (zaa (zab 6) (zag))))) (zag))))) (zae (za2 (zb3 (zar (zam 40 c (zaa (zam 12 c (zaa (zab 5) (zag))) (zaa (zam 71 c (zaa (zab 5) (zag))) (zag)))))) (zae (zas (gC (.bl false))) (zaj)) (zaj)) (zaj))) (zae (zas (gC (.bl true))) (zaj)))))))
end LD
namespace LD
open PySem
theorem okE.mono {α : Type} {r : Res α} {k k' : α -> Mem -> Prop} (h : okE r k) (m : ∀ a M, k a M -> k' a M) : okE r k' := zbv h m
@[simp] theorem zbn {α β : Type} {r : Res α} {f : α -> Mem -> Res β} {k : β -> Mem -> Prop} : okE (r.bind f) k ↔ okE r fun a M => okE (f a M) k := by cases r <;> rfl
@[simp] theorem zlf {α : Type} {a : α} {M : Mem} {k : α -> Mem -> Prop} : okE (.ok a M) k ↔ k a M := Iff.rfl
@[simp] theorem ok_bad {α : Type} {k : α -> Mem -> Prop} : okE (.bad : Res α) k ↔ False := Iff.rfl
@[simp] theorem zlg {α : Type} {M : Mem} {o : Option α} {k : α -> Mem -> Prop} : okE (ofO M o) k ↔ ∃ a, o = some a /\ k a M := by cases o <;> simp [ofO]
theorem zrj {α : Type} {r : Res α} {k : α -> Mem -> Prop} : okE r k ↔ ∃ a M, r = .ok a M /\ k a M := by
  cases r with
  | ok a M => exact ⟨fun h => ⟨a, M, rfl, h⟩, fun ⟨_, _, e, h⟩ => by cases e; exact h⟩
  | err => simp [okE]
  | bad => simp [okE]
theorem zmq {x y : D} {M : Mem} {v : Bool} (px : zav 64 (view M x) = true) (py : zav 64 (view M y) = true) (h : zbm (view M x) (view M y) = v) : zb4 .eq x y M = some v := by
  have e : eqD (view M x) (view M y) = some v := by unfold eqD; rw [px, py, h]; rfl
  show eqM M x y = _
  unfold eqM; rw [e]
theorem zqy {x y : D} {M : Mem} {v : Bool} (px : zav 64 (view M x) = true) (py : zav 64 (view M y) = true) (h : zbm (view M x) (view M y) = v) : zb4 .ne x y M = some (!v) := by
  show (zb4 .eq x y M).map (!·) = _
  rw [zmq px py h]; rfl
section
variable {ρ : Env} {M : Mem} {a b d lo hi : GE} {s : GA} {t u : GT} {k : D -> Mem -> Prop} {c : Call}
@[simp] theorem zcr {i : Nat} : okE (zab i ρ M) k ↔ ∃ d, ρ[i]?.getD none = some d /\ k d M := by simp [zab]
@[simp] theorem e_c {d : D} : okE (gC d ρ M) k ↔ k d M := Iff.rfl
@[simp] theorem zhx {m : Bool} {o : Bin} : okE (zap m o a b ρ M) k ↔ okE (a ρ M) fun x M => okE (b ρ M) fun y M => okE (ze2 m o x y M) k := by simp [zap]
@[simp] theorem zn7 {o : Cmp} : okE (za4 o a b ρ M) k ↔ okE (a ρ M) fun x M => okE (b ρ M) fun y M => ∃ v, zb4 o x y M = some v /\ k (.bl v) M := by simp [za4]
@[simp] theorem e_chn {o o' : Cmp} : okE (zh5 o o' a b d ρ M) k ↔ okE (a ρ M) fun x M => okE (b ρ M) fun y M => ∃ v, zb4 o x y M = some v /\ if v = true then okE (d ρ M) fun z M => ∃ v, zb4 o' y z M = some v /\ k (.bl v) M else k (.bl false) M := by
  simp only [zh5, zbn, zlg]
  refine iff_of_eq ?_
  congr 1; funext x M; congr 1; funext y M; refine propext (exists_congr fun v => and_congr_right fun _ => ?_)
  cases v <;> simp
@[simp] theorem e_neg : okE (zfb a ρ M) k ↔ okE (a ρ M) fun x M => ∃ i, x = .int i /\ k (.int (-i)) M := by
  simp only [zfb, zbn]; refine iff_of_eq ?_; congr 1; funext x M; cases x <;> simp
@[simp] theorem e_and : okE (zd2 a b ρ M) k ↔ okE (a ρ M) fun x M => ∃ v, x = .bl v /\ if v = true then okE (b ρ M) k else k (.bl false) M := by
  simp only [zd2, zbn]; refine iff_of_eq ?_; congr 1; funext x M; cases x <;> simp
  rename_i v; cases v <;> simp
@[simp] theorem e_or : okE (gOr a b ρ M) k ↔ okE (a ρ M) fun x M => ∃ v, x = .bl v /\ if v = true then k (.bl true) M else okE (b ρ M) k := by
  simp only [gOr, zbn]; refine iff_of_eq ?_; congr 1; funext x M; cases x <;> simp
  rename_i v; cases v <;> simp
@[simp] theorem e_not : okE (gNot a ρ M) k ↔ okE (a ρ M) fun x M => ∃ v, x = .bl v /\ k (.bl (!v)) M := by
  simp only [gNot, zbn]; refine iff_of_eq ?_; congr 1; funext x M; cases x <;> simp
@[simp] theorem e_ite : okE (zjg t a b ρ M) k ↔ okE (t ρ M) fun v M => if v = true then okE (a ρ M) k else okE (b ρ M) k := by
  simp only [zjg, zbn]; refine iff_of_eq ?_; congr 1; funext v M; cases v <;> simp
@[simp] theorem zls : okE (zaw a b ρ M) k ↔ okE (a ρ M) fun x M => okE (b ρ M) fun y M => ∃ d, zgp x y M = some d /\ k d M := by simp [zaw]
@[simp] theorem e_slc {m hl hh : Bool} : okE (zdc m hl hh a lo hi ρ M) k ↔ okE (a ρ M) fun x M => okE (lo ρ M) fun l M => okE (hi ρ M) fun h M => zcu hl l = true /\ zcu hh h = true /\ okE (zgn m x l h M) k := by
  simp only [zdc, zbn]
  refine iff_of_eq ?_
  congr 1; funext x M; congr 1; funext l M; congr 1; funext h M
  cases zcu hl l <;> cases zcu hh h <;> simp
@[simp] theorem zc2 {k : List D -> Mem -> Prop} : okE (zag ρ M) k ↔ k [] M := Iff.rfl
@[simp] theorem zcm {k : List D -> Mem -> Prop} : okE (zaa a s ρ M) k ↔ okE (a ρ M) fun x M => okE (s ρ M) fun xs M => k (x :: xs) M := by simp [zaa]
@[simp] theorem e_tup : okE (za3 s ρ M) k ↔ okE (s ρ M) fun xs M => xs.length ≤ sz /\ k (.tup xs) M := by
  simp only [za3, zbn]; refine iff_of_eq ?_; congr 1; funext xs M; unfold zir; split <;> simp [*]
theorem zo5 {m : Bool} {xs : List D} : okE (zb1 m xs M) k ↔ xs.length ≤ sz /\ if m = true then k (.cell M.length) (M ++ [xs]) else k (.lst xs) M := by
  unfold zb1; cases m <;> split <;> simp [*]
@[simp] theorem ze8 {xs : List D} : okE (zb1 false xs M) k ↔ xs.length ≤ sz /\ k (.lst xs) M := by simp [zo5]
@[simp] theorem zx5 {xs : List D} : okE (zb1 true xs M) k ↔ xs.length ≤ sz /\ k (.cell M.length) (M ++ [xs]) := by simp [zo5]
@[simp] theorem zn6 {m : Bool} : okE (zbw m s ρ M) k ↔ okE (s ρ M) fun xs M => okE (zb1 m xs M) k := by simp [zbw]
@[simp] theorem zdj {f : Nat} : okE (zam f c s ρ M) k ↔ okE (s ρ M) fun ds M => okE (c f ds M) k := by simp [zam]
@[simp] theorem e_callv {i : Nat} : okE (zih i c s ρ M) k ↔ ∃ f, ρ[i]?.getD none = some (.fn f) /\ okE (s ρ M) fun ds M => okE (c f ds M) k := by
  unfold zih
  cases e : ρ[i]?.getD none with
  | none => simp
  | some d => cases d <;> simp
@[simp] theorem ziw {f : Blt} : okE (zbe f s ρ M) k ↔ okE (s ρ M) fun ds M => okE (zfk f ds M) k := by simp [zbe]
@[simp] theorem zpk {t : Ty} : okE (zb6 t a ρ M) k ↔ okE (a ρ M) fun x M => ∃ v, zbo t x = some v /\ k (.bl v) M := by simp [zb6]
@[simp] theorem e_dget {fs : List (Str × Nat)} : okE (ziv fs a ρ M) k ↔ okE (a ρ M) fun x M => ∃ y f, x = .str y /\ fs.lookup y = some f /\ k (.fn f) M := by
  simp only [ziv, zbn]; refine iff_of_eq ?_; congr 1; funext x M; cases x <;> simp
  exact ⟨fun ⟨_, ⟨f, h, e⟩, q⟩ => ⟨f, h, e ▸ q⟩, fun ⟨f, h, q⟩ => ⟨_, ⟨f, h, rfl⟩, q⟩⟩
@[simp] theorem e_dnot {fs : List (Str × Nat)} : okE (ziu fs a ρ M) k ↔ okE (a ρ M) fun x M => ∃ y, x = .str y /\ k (.bl (!(fs.lookup y).isSome)) M := by
  simp only [ziu, zbn]; refine iff_of_eq ?_; congr 1; funext x M; cases x <;> simp
@[simp] theorem e_listR {m : Bool} : okE (zjf m a ρ M) k ↔ okE (a ρ M) fun x M => ∃ n, x = .int n /\ (-(2 ^ 62) ≤ n /\ n < 2 ^ 20) /\ okE (zb1 m ((List.range n.toNat).map fun (k : Nat) => D.int (k : Int)) M) k := by
  simp only [zjf, zbn]; refine iff_of_eq ?_; congr 1; funext x M
  cases x <;> simp
  rename_i n
  split <;> simp [*]
variable {kb : Bool -> Mem -> Prop}
@[simp] theorem zq2 : okE (zar a ρ M) kb ↔ okE (a ρ M) fun x M => ∃ v, zh2 M x = some v /\ kb v M := by simp [zar]
@[simp] theorem t_and : okE (zgm t u ρ M) kb ↔ okE (t ρ M) fun v M => if v = true then okE (u ρ M) kb else kb false M := by
  simp only [zgm, zbn]; refine iff_of_eq ?_; congr 1; funext v M; cases v <;> simp
@[simp] theorem t_or : okE (tOr t u ρ M) kb ↔ okE (t ρ M) fun v M => if v = true then kb true M else okE (u ρ M) kb := by
  simp only [tOr, zbn]; refine iff_of_eq ?_; congr 1; funext v M; cases v <;> simp
@[simp] theorem t_not : okE (zb3 t ρ M) kb ↔ okE (t ρ M) fun v M => kb (!v) M := by simp [zb3]
variable {kf : Fl -> Mem -> Prop} {sa sb : GS}
def zkv (b : GS) (k : Fl -> Mem -> Prop) : Fl -> Mem -> Prop
  | .next ρ, M => okE (b ρ M) k
  | .ret d, M => k (.ret d) M
@[simp] theorem zcz {b : GS} : zkv b kf (.next ρ) M ↔ okE (b ρ M) kf := Iff.rfl
@[simp] theorem zof {b : GS} {d : D} : zkv b kf (.ret d) M ↔ kf (.ret d) M := Iff.rfl
@[simp] theorem zbi : okE (zae sa sb ρ M) kf ↔ okE (sa ρ M) (zkv sb kf) := by
  simp only [zae, zbn]; refine iff_of_eq ?_; congr 1; funext fl M; cases fl <;> rfl
@[simp] theorem zi9 : okE (zaj ρ M) kf ↔ kf (.next ρ) M := Iff.rfl
@[simp] theorem zdq {i : Nat} : okE (zax (.one i) a ρ M) kf ↔ okE (a ρ M) fun x M => kf (.next (ρ.set i (some x))) M := by simp [zax, zdt]
@[simp] theorem s_asgt {l : List Nat} : okE (zax (.tup l) a ρ M) kf ↔ okE (a ρ M) fun x M => ∃ ds ρ1, x = .tup ds /\ zfy l ds ρ = some ρ1 /\ kf (.next ρ1) M := by
  simp only [zax, zbn, zlg, zlf]; refine iff_of_eq ?_; congr 1; funext x M; cases x <;> simp [zdt]
@[simp] theorem s_put_ : okE (zfa a b d ρ M) kf ↔ okE (d ρ M) fun z M => okE (a ρ M) fun x M => okE (b ρ M) fun y M => ∃ j n ds i, x = .cell j /\ y = .int n /\ M[j]? = some ds /\ ixN ds.length n = some i /\ kf (.next ρ) (M.set j (ds.set i z)) := by
  simp only [zfa, zbn]
  refine iff_of_eq ?_
  congr 1; funext z M; congr 1; funext x M; congr 1; funext y M
  cases x <;> cases y <;> simp
  rename_i j n
  cases e : M[j]? with
  | none => simp
  | some ds =>
    cases e2 : ixN ds.length n with
    | none => simp [e2]
    | some i => simp [e2]
@[simp] theorem s_app_ : okE (ziq a d ρ M) kf ↔ okE (a ρ M) fun x M => okE (d ρ M) fun z M => ∃ j ds, x = .cell j /\ M[j]? = some ds /\ ds.length < sz /\ kf (.next ρ) (M.set j (ds ++ [z])) := by
  simp only [ziq, zbn]
  refine iff_of_eq ?_
  congr 1; funext x M; congr 1; funext z M
  cases x <;> simp
  rename_i j
  cases e : M[j]? with
  | none => simp
  | some ds => by_cases h : ds.length < sz <;> simp [h]
@[simp] theorem s_ex_ : okE (sEx a ρ M) kf ↔ okE (a ρ M) fun _ M => kf (.next ρ) M := by simp [sEx]
@[simp] theorem zdp : okE (zas a ρ M) kf ↔ okE (a ρ M) fun x M => kf (.ret x) M := by simp [zas]
@[simp] theorem s_retN_ : okE (sRetN ρ M) kf ↔ kf (.ret .non) M := Iff.rfl
@[simp] theorem s_pass_ : okE (sPass ρ M) kf ↔ kf (.next ρ) M := Iff.rfl
@[simp] theorem s_bad_ : okE (zja ρ M) kf ↔ False := Iff.rfl
@[simp] theorem zie : okE (za2 t sa sb ρ M) kf ↔ okE (t ρ M) fun v M => if v = true then okE (sa ρ M) kf else okE (sb ρ M) kf := by
  simp only [za2, zbn]; refine iff_of_eq ?_; congr 1; funext v M; cases v <;> simp
variable {kw : Walk -> Mem -> Prop}
@[simp] theorem zsc : okE (zd4 a ρ M) kw ↔ okE (a ρ M) fun x M => ∃ n, x = .int n /\ (-(2 ^ 62) ≤ n /\ n < 2 ^ 62) /\ kw (fun _ => some ((List.range n.toNat).map fun (k : Nat) => D.int (k : Int))) M := by
  simp only [zd4, zbn]; refine iff_of_eq ?_; congr 1; funext x M; cases x <;> simp
  rename_i n
  split <;> simp [*]
@[simp] theorem w_seq : okE (zd5 a ρ M) kw ↔ okE (a ρ M) fun x M => zeh x = true /\ kw (fun M => zcx M x) M := by
  simp only [zd5, zbn]; refine iff_of_eq ?_; congr 1; funext x M; cases x <;> simp [zeh] <;> rfl
@[simp] theorem w_enum : okE (zg7 a ρ M) kw ↔ okE (a ρ M) fun x M => (zeh x && zgs x) = true /\ kw (fun M => (zcx M x).map (ze1 0)) M := by
  simp only [zg7, zbn]; refine iff_of_eq ?_; congr 1; funext x M; cases x <;> simp [zeh, zgs] <;> rfl
@[simp] theorem w_zip2 : okE (zlp a b ρ M) kw ↔ okE (a ρ M) fun x M => okE (b ρ M) fun y M => (zeh x && zeh y) = true /\ kw (znu x y) M := by
  simp only [zlp, zbn]; refine iff_of_eq ?_; congr 1; funext x M; congr 1; funext y M; split <;> simp [*]
def zh6 (k : D -> Mem -> Prop) : Fl -> Mem -> Prop
  | .ret d, M => k d M
  | .next _, M => k .non M
@[simp] theorem fin_ret {d : D} : zh6 k (.ret d) M ↔ k d M := Iff.rfl
@[simp] theorem fin_next : zh6 k (.next ρ) M ↔ k .non M := Iff.rfl
theorem za5 {P : Nat -> Option Df} {n f : Nat} {d : Df} {ds : List D} (e : P f = some d) (hl : ds.length = d.params) (h : okE (d.body (zay P n) (ds.map some ++ List.replicate (d.slots - ds.length) none) M) (zh6 k)) : okE (zay P (n + 1) f ds M) k := by
  show okE (match P f with | none => Res.bad | some d => zg2 (zay P n) d ds M) k
  rw [e]
  show okE (zg2 (zay P n) d ds M) k
  unfold zg2
  rw [if_pos hl]
  simp only [zbn]
  refine zbv h fun fl M q => ?_
  cases fl <;> exact q
theorem zro {α : Type} (f : α -> D -> Mem -> Res α) (ds : List D) : ∀ (m i : Nat) (a : α) (M : Mem), ds.length - i < m -> i ≤ ds.length -> zez f (fun _ => some ds) m i a M = eachR f (ds.drop i) a M
  | 0, i, a, M, h, _ => absurd h (Nat.not_lt_zero _)
  | m + 1, i, a, M, h, hi => by
    show (match ds[i]? with | none => Res.ok a M | some d => (f a d M).bind (zez f (fun _ => some ds) m (i + 1))) = _
    by_cases hlt : i < ds.length
    · rw [List.drop_eq_getElem_cons hlt, List.getElem?_eq_getElem hlt]
      show (f a ds[i] M).bind _ = (f a ds[i] M).bind _
      congr 1
      funext a M
      exact zro f ds m (i + 1) a M (by omega) hlt
    · have e : i = ds.length := by omega
      subst e
      rw [List.getElem?_eq_none (Nat.le_refl _), List.drop_length]
      rfl
theorem zkd {α : Type} {f : α -> D -> Mem -> Res α} {w : Walk} {ds : List D} {a : α} {k : α -> Mem -> Prop} (I : Nat -> α -> Mem -> Prop) (hw : ∀ i a M, I i a M -> w M = some ds) (h0 : I 0 a M)
    (hs : ∀ i d a M, ds[i]? = some d -> I i a M -> okE (f a d M) (I (i + 1))) (hk : ∀ a M, I ds.length a M -> k a M) : okE (zfc f w a M) k := by
  have key : ∀ (m i : Nat) (a : α) (M : Mem), ds.length - i < m -> i ≤ ds.length -> I i a M -> okE (zez f w m i a M) k := by
    intro m
    induction m with
    | zero => intro i a M h; exact absurd h (Nat.not_lt_zero _)
    | succ m ih =>
      intro i a M h hi hI
      show okE (match w M with | none => Res.bad | some ds => match ds[i]? with | none => Res.ok a M | some d => (f a d M).bind (zez f w m (i + 1))) k
      rw [hw i a M hI]
      dsimp only
      by_cases hlt : i < ds.length
      · rw [List.getElem?_eq_getElem hlt]
        simp only [zbn]
        exact zbv (hs i ds[i] a M (List.getElem?_eq_getElem hlt) hI) fun a' M' h' => ih (i + 1) a' M' (by omega) hlt h'
      · have e : i = ds.length := by omega
        subst e
        rw [List.getElem?_eq_none (Nat.le_refl _)]
        exact hk a M hI
  unfold zfc
  rw [hw 0 a M h0]
  exact key _ 0 a M (by simp) (Nat.zero_le _) h0
theorem zii {t : Tgt} {w : Walk} {gb : GS} {ds : List D} (I : Nat -> Env -> Mem -> Prop) (hw : ∀ i ρ M, I i ρ M -> w M = some ds) (h0 : I 0 ρ M)
    (hs : ∀ i d ρ M, ds[i]? = some d -> I i ρ M -> ∃ ρ1, zdt t d ρ = some ρ1 /\ okE (gb ρ1 M) fun fl M => ∃ ρ', fl = .next ρ' /\ I (i + 1) ρ' M) (hk : ∀ ρ M, I ds.length ρ M -> kf (.next ρ) M) : okE (zfc (zg5 t gb) w (.next ρ) M) kf := by
  refine zkd (fun i fl M => ∃ ρ, fl = .next ρ /\ I i ρ M) (fun i fl M ⟨ρ, _, h⟩ => hw i ρ M h) ⟨ρ, rfl, h0⟩ ?_ ?_
  · rintro i d fl M hd ⟨ρ, rfl, hI⟩
    obtain ⟨ρ1, e, h⟩ := hs i d ρ M hd hI
    simp only [zg5, zbn, zlg, e]
    exact ⟨ρ1, rfl, h⟩
  · rintro fl M ⟨ρ, rfl, hI⟩
    exact hk ρ M hI
@[simp] theorem zou {tg : Tgt} {w : GW} {gb : GS} : okE (zd1 tg w gb ρ M) kf ↔ okE (w ρ M) fun w M => okE (zfc (zg5 tg gb) w (.next ρ) M) kf := by simp [zd1]
@[simp] theorem zpl {m : Bool} {n : Nat} {tg : Tgt} {w : GW} {g : GB} : okE (zb7 m n tg w g ρ M) k ↔ okE (w ρ M) fun w M => okE (zfc (zfr tg g (List.replicate n none ++ ρ)) w [] M) fun acc M => okE (zb1 m acc M) k := by simp [zb7]
variable {kl : List D -> Mem -> Prop}
@[simp] theorem b_fin {ge : GE} {acc : List D} : okE (zci ge ρ acc M) kl ↔ okE (ge ρ M) fun x M => acc.length < sz /\ kl (acc ++ [x]) M := by
  simp only [zci, zbn]; refine iff_of_eq ?_; congr 1; funext x M; split <;> simp [*]
theorem comp_map {tg : Tgt} {w : Walk} {ge : GE} {ds : List D} {ρ0 : Env} (I : Nat -> List D -> Mem -> Prop) (hz : ds.length ≤ sz) (hw : ∀ i acc M, I i acc M -> w M = some ds) (h0 : I 0 [] M)
    (hs : ∀ i d acc M, ds[i]? = some d -> acc.length = i -> I i acc M -> ∃ ρ1, zdt tg d ρ0 = some ρ1 /\ okE (ge ρ1 M) fun x M => I (i + 1) (acc ++ [x]) M) (hk : ∀ acc M, acc.length = ds.length -> I ds.length acc M -> kl acc M) :
    okE (zfc (zfr tg (zci ge) ρ0) w [] M) kl := by
  refine zkd (fun i acc M => acc.length = i /\ I i acc M) (fun i acc M h => hw i acc M h.2) ⟨rfl, h0⟩ ?_ (fun acc M h => hk acc M h.1 h.2)
  rintro i d acc M hd ⟨hl, hI⟩
  obtain ⟨ρ1, e, h⟩ := hs i d acc M hd hl hI
  have hi : i < ds.length := (List.getElem?_eq_some_iff.mp hd).1
  simp only [zfr, zbn, zlg, e, b_fin]
  exact ⟨ρ1, rfl, zbv h fun x M h => ⟨by omega, by simp [hl], h⟩⟩
end
end LD
namespace LD
open PySem
structure zjs (P : Nat -> Option Df) : Prop where
  is_between : P 0 = some ⟨3, 3, zel⟩
  is_word : P 1 = some ⟨2, 2, zg0⟩
  is_place : P 2 = some ⟨2, 2, zge⟩
  is_cost : P 3 = some ⟨1, 1, zg1⟩
  is_tuple_of : P 4 = some ⟨2, 2, zd7⟩
  is_table : P 5 = some ⟨2, 2, zgd⟩
  is_double_table : P 6 = some ⟨2, 2, zdr⟩
  is_turn : P 7 = some ⟨3, 6, zea⟩
  is_join : P 8 = some ⟨3, 7, zdv⟩
  is_move : P 9 = some ⟨3, 6, zeb⟩
  is_put : P 10 = some ⟨3, 6, ze3⟩
  is_deed : P 11 = some ⟨3, 5, zec⟩
  is_machine : P 12 = some ⟨1, 4, zek⟩
  need_machine : P 13 = some ⟨1, 1, zms⟩
  is_deed_number : P 16 = some ⟨2, 2, zkq⟩
  need_numbers : P 17 = some ⟨2, 4, zmr⟩
  need_row : P 18 = some ⟨2, 2, zr1⟩
  turned : P 20 = some ⟨2, 6, zv1⟩
  joined : P 21 = some ⟨2, 7, zv4⟩
  moved : P 22 = some ⟨2, 6, zyx⟩
  put_in : P 23 = some ⟨2, 6, zv2⟩
  done : P 24 = some ⟨2, 4, b_done⟩
  all_standing : P 25 = some ⟨3, 5, zmu⟩
structure zjr (P : Nat -> Option Df) : Prop where
  law_spread : P 28 = some ⟨2, 6, zf0⟩
  law_open : P 29 = some ⟨1, 4, zgt⟩
  law_anew : P 30 = some ⟨1, 1, zgv⟩
  law_take : P 31 = some ⟨2, 5, zh7⟩
  law_tab : P 32 = some ⟨2, 6, zha⟩
  law_deed : P 33 = some ⟨3, 7, zgu⟩
  law_machine : P 34 = some ⟨4, 8, zfv⟩
@[simp] theorem env_z {d : Option D} {r : Env} : (d :: r)[0]?.getD none = d := rfl
section
variable {M : Mem} {k : D -> Mem -> Prop}
theorem zhp {α : Type} {c : Prop} [Decidable c] {r : Res α} {k : α -> Mem -> Prop} : okE (if c then r else .bad) k ↔ c /\ okE r k := by split <;> simp [*]
@[simp] theorem zgf {m : Bool} {i j : Int} : okE (ze2 m .add (.int i) (.int j) M) k ↔ k (.int (i + j)) M := Iff.rfl
@[simp] theorem zkx {m : Bool} {i j : Int} : okE (ze2 m .sub (.int i) (.int j) M) k ↔ k (.int (i - j)) M := Iff.rfl
@[simp] theorem zpa {m : Bool} {i j : Int} : okE (ze2 m .mul (.int i) (.int j) M) k ↔ ((-(2 ^ 64) < i /\ i < 2 ^ 64) \/ (-(2 ^ 64) < j /\ j < 2 ^ 64)) /\ k (.int (i * j)) M := zhp
@[simp] theorem zlj {m : Bool} {i j : Int} : okE (ze2 m .mod (.int i) (.int j) M) k ↔ 0 < j /\ k (.int (i % j)) M := zhp
@[simp] theorem fdiv_ii {m : Bool} {i j : Int} : okE (ze2 m .fdiv (.int i) (.int j) M) k ↔ (0 < j /\ j < 1073741824) /\ k (.int (i / j)) M := zhp
@[simp] theorem zow {m : Bool} {i j : Int} : okE (ze2 m .pow (.int i) (.int j) M) k ↔ (0 ≤ j /\ j ≤ 1000000 /\ i.natAbs < 2 ^ 64) /\ k (.int (i ^ j.toNat)) M := zhp
@[simp] theorem zly {m : Bool} {x y : List D} : okE (ze2 m .add (.tup x) (.tup y) M) k ↔ (x ++ y).length ≤ sz /\ k (.tup (x ++ y)) M := by
  show okE (zir _ _) k ↔ _
  unfold zir; exact zhp
@[simp] theorem add_ll {m : Bool} {x y : List D} : okE (ze2 m .add (.lst x) (.lst y) M) k ↔ okE (zb1 m (x ++ y) M) k := Iff.rfl
@[simp] theorem v_c_lt {i j : Int} : zb4 .lt (.int i) (.int j) M = some (decide (i < j)) := rfl
@[simp] theorem v_c_le {i j : Int} : zb4 .le (.int i) (.int j) M = some (decide (i ≤ j)) := rfl
@[simp] theorem v_c_gt {i j : Int} : zb4 .gt (.int i) (.int j) M = some (decide (j < i)) := rfl
@[simp] theorem v_c_ge {i j : Int} : zb4 .ge (.int i) (.int j) M = some (decide (j ≤ i)) := rfl
@[simp] theorem c_eqi {i j : Int} : zb4 .eq (.int i) (.int j) M = some (i == j) := rfl
@[simp] theorem c_nei {i j : Int} : zb4 .ne (.int i) (.int j) M = some (!(i == j)) := rfl
@[simp] theorem tru_bl {b : Bool} : zh2 M (.bl b) = some b := rfl
@[simp] theorem tru_tup {ds : List D} : zh2 M (.tup ds) = some (!ds.isEmpty) := rfl
@[simp] theorem tru_lst {ds : List D} : zh2 M (.lst ds) = some (!ds.isEmpty) := rfl
@[simp] theorem zml {ds : List D} : okE (zfk .len [.tup ds] M) k ↔ k (.int ds.length) M := Iff.rfl
@[simp] theorem zx9 {ds : List D} : okE (zfk .len [.lst ds] M) k ↔ k (.int ds.length) M := Iff.rfl
@[simp] theorem zyy {ds : List D} : okE (zfk .all [.lst ds] M) k ↔ ∃ bs, boolsOf ds = some bs /\ k (.bl (bs.all id)) M := by
  show okE (match boolsOf ds with | some bs => _ | none => _) k ↔ _
  cases boolsOf ds <;> simp
@[simp] theorem sum_lst {ds : List D} : okE (zfk .sum [.lst ds] M) k ↔ ∃ bs, intsOf ds = some bs /\ k (.int bs.sum) M := by
  show okE (match intsOf ds with | some bs => _ | none => _) k ↔ _
  cases intsOf ds <;> simp
@[simp] theorem tuple_lst {ds : List D} : okE (zfk .tuple [.lst ds] M) k ↔ k (.tup ds) M := Iff.rfl
@[simp] theorem tuple_cell {j : Nat} : okE (zfk .tuple [.cell j] M) k ↔ ∃ ds, M[j]? = some ds /\ k (.tup ds) M := by
  show okE (match M[j]? with | some xs => _ | none => _) k ↔ _
  cases M[j]? <;> simp
@[simp] theorem zvl {m : Bool} {ds : List D} : okE (zfk (.list m) [.lst ds] M) k ↔ okE (zb1 m ds M) k := Iff.rfl
@[simp] theorem zyd {ds : List D} {i : Int} : zgp (.tup ds) (.int i) M = (ixN ds.length i).bind fun j => ds[j]? := rfl
@[simp] theorem zqt {ds : List D} {i : Int} : zgp (.lst ds) (.int i) M = (ixN ds.length i).bind fun j => ds[j]? := rfl
@[simp] theorem idx_cell {j : Nat} {i : Int} : zgp (.cell j) (.int i) M = (M[j]?).bind fun ds => (ixN ds.length i).bind fun j => ds[j]? := rfl
theorem zgz {n i : Nat} (h : i < n) : ixN n (i : Int) = some i := by
  unfold ixN; rw [if_pos (Int.natCast_nonneg i), if_pos (by exact_mod_cast h)]; rfl
end
theorem zao {α : Type} {r : Res α} {d : α} {M : Mem} (h : okE r fun x M' => x = d /\ M' = M) : r = .ok d M := by
  obtain ⟨a, M', e, rfl, rfl⟩ := zrj.mp h
  exact e
theorem za1 {r : Res D} {d : D} {M : Mem} (h : okE r fun x M' => x = d /\ M' = M) : r = .ok d M := by
  obtain ⟨a, M', e, rfl, rfl⟩ := zrj.mp h
  exact e
section
variable {P : Nat -> Option Df} (h : zjs P) {M : Mem}
include h
end
theorem zm7 {tg : Tgt} {w : Walk} {ge : GE} {ds : List D} {ρ0 : Env} {M : Mem} {kl : List D -> Mem -> Prop} (f : D -> D) (hz : ds.length ≤ sz) (hw : w M = some ds) (hs : ∀ d ∈ ds, ∃ ρ1, zdt tg d ρ0 = some ρ1 /\ ge ρ1 M = .ok (f d) M) (hk : kl (ds.map f) M) :
    okE (zfc (zfr tg (zci ge) ρ0) w [] M) kl := by
  refine comp_map (fun i acc M' => M' = M /\ acc = (ds.take i).map f) hz (fun i acc M' h => by rw [h.1]; exact hw) ⟨rfl, rfl⟩ ?_ ?_
  · rintro i d acc M' hd _ ⟨rfl, rfl⟩
    obtain ⟨ρ1, e1, e2⟩ := hs d (List.mem_of_getElem? hd)
    refine ⟨ρ1, e1, ?_⟩
    rw [e2]
    refine ⟨rfl, ?_⟩
    have hi : i < ds.length := (List.getElem?_eq_some_iff.mp hd).1
    rw [List.take_succ, hd]
    simp
  · rintro acc M' _ ⟨rfl, rfl⟩
    simpa using hk
abbrev nD (n : Nat) : D := .int (n : Int)
def zf4 (l : List Nat) : D := .tup (l.map nD)
inductive zbu where
  | turn (at_ : Nat) (tab : List Nat) (cost : Nat)
  | join (at_ other : Nat) (tab : List (List Nat)) (cost : Nat)
  | move (at_ other cost : Nat)
  | put (at_ word cost : Nat)
def zbu.d : zbu -> D
  | .turn a t c => .tup [.str "turn", nD a, zf4 t, nD c]
  | .join a o t c => .tup [.str "join", nD a, nD o, .tup (t.map zf4), nD c]
  | .move a o c => .tup [.str "move", nD a, nD o, nD c]
  | .put a w c => .tup [.str "put", nD a, nD w, nD c]
def zbu.cost : zbu -> Nat
  | .turn _ _ c => c
  | .join _ _ _ c => c
  | .move _ _ c => c
  | .put _ _ c => c
structure zf6 where
  words : Nat
  places : Nat
  deeds : List zbu
def zf6.d (m : zf6) : D := .tup [nD m.words, nD m.places, .tup (m.deeds.map zbu.d)]
def zhb (w : Nat) (t : List Nat) : Prop := t.length = w /\ ∀ x ∈ t, x < w
def zfo (c : Nat) : Prop := 1 ≤ c /\ c ≤ 3
def zfn (w p : Nat) : zbu -> Prop
  | .turn a t c => a < p /\ zhb w t /\ zfo c
  | .join a o t c => a < p /\ o < p /\ (t.length = w /\ ∀ x ∈ t, zhb w x) /\ zfo c
  | .move a o c => a < p /\ o < p /\ zfo c
  | .put a x c => a < p /\ x < w /\ zfo c
structure zp1 (m : zf6) : Prop where
  w2 : 2 ≤ m.words
  w4 : m.words ≤ 4
  p1 : 1 ≤ m.places
  p2 : m.places ≤ 2
  d1 : 1 ≤ m.deeds.length
  d6 : m.deeds.length ≤ 6
  ok : ∀ d ∈ m.deeds, zfn m.words m.places d
theorem za9 {n : Nat} (h : n ≤ 100000) : n ≤ sz := Nat.le_trans h (by decide)
section
variable {P : Nat -> Option Df} (h : zjs P) {M : Mem}
include h
end
theorem lkS1 : zdd.lookup (Str.ofString "turn") = some 7 := by decide +kernel
theorem lkS2 : zdd.lookup (Str.ofString "join") = some 8 := by decide +kernel
theorem lkS3 : zdd.lookup (Str.ofString "move") = some 9 := by decide +kernel
theorem lkS4 : zdd.lookup (Str.ofString "put") = some 10 := by decide +kernel
section
variable {P : Nat -> Option Df} (h : zjs P) {M : Mem}
include h
end
end LD
namespace LD
open PySem
structure Sub (M M' : Mem) : Prop where
  len : M.length ≤ M'.length
  at' : ∀ k, k < M.length -> M'[k]? = M[k]?
theorem Sub.refl {M : Mem} : Sub M M := ⟨Nat.le_refl _, fun _ _ => rfl⟩
theorem Sub.trans {M M1 M2 : Mem} (a : Sub M M1) (b : Sub M1 M2) : Sub M M2 := ⟨Nat.le_trans a.len b.len, fun k hk => (b.at' k (Nat.lt_of_lt_of_le hk a.len)).trans (a.at' k hk)⟩
theorem Sub.app {M X : Mem} : Sub M (M ++ X) := ⟨by simp, fun k hk => List.getElem?_append_left hk⟩
theorem Sub.get {k : Nat} {M M' : Mem} {ds : List D} (h : Sub M M') (e : M[k]? = some ds) : M'[k]? = some ds := by rw [h.at' k (List.getElem?_eq_some_iff.mp e).1]; exact e
theorem Sub.setq {M M' : Mem} {q : Nat} {ds : List D} (h : Sub M M') (hq : M.length ≤ q) : Sub M (M'.set q ds) := ⟨by simpa using h.len, fun k hk => by rw [List.getElem?_set_ne (by omega)]; exact h.at' k hk⟩
def ext1 (w : Nat) (l : List (List Nat)) : List (List Nat) := l.flatMap fun s => (List.range w).map fun x => s ++ [x]
def begsN (w : Nat) : Nat -> List (List Nat)
  | 0 => [[]]
  | p + 1 => ext1 w (begsN w p)
def begs (m : zf6) : List (List Nat) := begsN m.words m.places
def zx7 : zbu -> List Nat -> Nat
  | .turn a t _, s => t.getD (s.getD a 0) 0
  | .join a o t _, s => (t.getD (s.getD a 0) []).getD (s.getD o 0) 0
  | .move _ o _, s => s.getD o 0
  | .put _ x _, _ => x
def zbu.at' : zbu -> Nat
  | .turn a _ _ => a
  | .join a _ _ _ => a
  | .move a _ _ => a
  | .put a _ _ => a
def doDeed (d : zbu) (s : List Nat) : List Nat := s.take d.at' ++ [zx7 d s] ++ s.drop (d.at' + 1)
theorem getD_mem {α : Type} {l : List α} {i : Nat} {d : α} (h : i < l.length) : l.getD i d ∈ l := by
  rw [List.getD_eq_getElem?_getD, List.getElem?_eq_getElem h]; exact List.getElem_mem h
def RowOk (m : zf6) (r : List Nat) : Prop := r.length ≤ 40 /\ ∀ i ∈ r, i < m.deeds.length
def zw0 (m : zf6) (i : Nat) : zbu := m.deeds.getD i (.put 0 0 1)
def endS (m : zf6) : List Nat -> List Nat -> List Nat
  | [], s => s
  | i :: r, s => endS m r (doDeed (zw0 m i) s)
theorem zts {d : zbu} {M : Mem} : zgp d.d (.int (-1)) M = some (nD d.cost) := by cases d <;> rfl
def zdf (M : Mem) (x : D) (r : List Nat) : Prop := x = .lst (r.map nD) \/ ∃ q, x = .cell q /\ M[q]? = some (r.map nD)
theorem zdf.l {M : Mem} {r : List Nat} : zdf M (.lst (r.map nD)) r := .inl rfl
theorem zdf.c {M : Mem} {q : Nat} {r : List Nat} (h : M[q]? = some (r.map nD)) : zdf M (.cell q) r := .inr ⟨q, rfl, h⟩
theorem zdf.sub {M M' : Mem} {x : D} {r : List Nat} (h : zdf M x r) (s : Sub M M') : zdf M' x r := h.elim .inl fun ⟨q, e, g⟩ => .inr ⟨q, e, s.get g⟩
theorem zdf.seq {M : Mem} {x : D} {r : List Nat} (h : zdf M x r) : zcx M x = some (r.map nD) := by
  rcases h with rfl | ⟨q, rfl, e⟩
  · rfl
  · exact e
theorem zdf.rd {M : Mem} {x : D} {r : List Nat} (h : zdf M x r) : rdD M x = some (r.map nD) := by
  rcases h with rfl | ⟨q, rfl, e⟩
  · rfl
  · exact e
theorem zdf.is {M : Mem} {x : D} {r : List Nat} (h : zdf M x r) : zeh x = true /\ zgs x = true /\ zbo .list x = some true := by
  rcases h with rfl | ⟨q, rfl, e⟩ <;> exact ⟨rfl, rfl, rfl⟩
theorem zdf.len {M : Mem} {x : D} {r : List Nat} {k : D -> Mem -> Prop} (h : zdf M x r) : okE (zfk .len [x] M) k ↔ k (.int r.length) M := by
  rcases h with rfl | ⟨q, rfl, e⟩
  · show k (.int (r.map nD).length) M ↔ _
    simp
  · show okE (match M[q]? with | some xs => _ | none => _) k ↔ _
    rw [e]; simp
theorem zdf.list {M : Mem} {x : D} {r : List Nat} {m : Bool} {k : D -> Mem -> Prop} (h : zdf M x r) : okE (zfk (.list m) [x] M) k ↔ okE (zb1 m (r.map nD) M) k := by
  rcases h with rfl | ⟨q, rfl, e⟩
  · exact Iff.rfl
  · show okE (match M[q]? with | some xs => _ | none => _) k ↔ _
    rw [e]
theorem zdf.non {M : Mem} {x : D} {r : List Nat} (h : zdf M x r) : zis x = false := by
  rcases h with rfl | ⟨q, rfl, e⟩ <;> rfl
section
variable {P : Nat -> Option Df} (h : zjs P) {M : Mem}
include h
end
section
variable {P : Nat -> Option Df} (h : zjs P) {M : Mem}
include h
end
end LD
namespace LD
open PySem
@[simp] theorem len_cell {j : Nat} {M : Mem} {k : D -> Mem -> Prop} : okE (zfk .len [.cell j] M) k ↔ ∃ ds, M[j]? = some ds /\ k (.int ds.length) M := by
  show okE (match M[j]? with | some xs => _ | none => _) k ↔ _
  cases M[j]? <;> simp
structure zba (M : Mem) (p B : Nat) : Prop where
  ex : ∃ (c : Nat) (cells : List Int) (at_ st : Int), M[p]? = some [.cell c, .int at_, .int st] /\ M[c]? = some (cells.map D.int) /\ c < p /\ 0 ≤ at_ /\ at_ ≤ B /\ 0 ≤ st
structure zbx (p : Nat) (M M' : Mem) : Prop where
  len : M.length ≤ M'.length
  at' : ∀ k, k < M.length -> k ≠ p -> M'[k]? = M[k]?
theorem zbx.refl {p : Nat} {M : Mem} : zbx p M M := ⟨Nat.le_refl _, fun _ _ _ => rfl⟩
theorem zbx.trans {p : Nat} {M M1 M2 : Mem} (a : zbx p M M1) (b : zbx p M1 M2) : zbx p M M2 := ⟨Nat.le_trans a.len b.len, fun k hk n => (b.at' k (Nat.lt_of_lt_of_le hk a.len) n).trans (a.at' k hk n)⟩
theorem zbx.set {p : Nat} {M : Mem} {ds : List D} : zbx p M (M.set p ds) := ⟨by simp, fun k _ n => List.getElem?_set_ne (Ne.symm n)⟩
theorem zbx.app {p : Nat} {M X : Mem} : zbx p M (M ++ X) := ⟨by simp, fun k hk _ => List.getElem?_append_left hk⟩
theorem zbx.get {p k : Nat} {M M' : Mem} {ds : List D} (h : zbx p M M') (e : M[k]? = some ds) (n : k ≠ p) : M'[k]? = some ds := by rw [h.at' k (List.getElem?_eq_some_iff.mp e).1 n]; exact e
theorem zba.lt {M : Mem} {p B : Nat} (h : zba M p B) : p < M.length := by obtain ⟨_, _, _, _, e, _⟩ := h.ex; exact (List.getElem?_eq_some_iff.mp e).1
theorem zba.app {M X : Mem} {p B : Nat} (h : zba M p B) : zba (M ++ X) p B := by
  obtain ⟨c, cells, a, st, e1, e2, r⟩ := h.ex
  exact ⟨c, cells, a, st, by rw [List.getElem?_append_left (List.getElem?_eq_some_iff.mp e1).1]; exact e1, by rw [List.getElem?_append_left (List.getElem?_eq_some_iff.mp e2).1]; exact e2, r⟩
theorem zba.mono {M : Mem} {p B B' : Nat} (h : zba M p B) (hb : B ≤ B') : zba M p B' := by
  obtain ⟨c, cells, a, st, e1, e2, e3, e4, e5, e6⟩ := h.ex
  exact ⟨c, cells, a, st, e1, e2, e3, e4, by omega, e6⟩
theorem zba.setq {M : Mem} {p q B : Nat} {ds : List D} (h : zba M p B) (hq : p < q) : zba (M.set q ds) p B := by
  obtain ⟨c, cells, a, st, e1, e2, e3, e4, e5, e6⟩ := h.ex
  exact ⟨c, cells, a, st, by rw [List.getElem?_set_ne (by omega)]; exact e1, by rw [List.getElem?_set_ne (by omega)]; exact e2, e3, e4, e5, e6⟩
theorem zbx.setq {p q : Nat} {M M' : Mem} {ds : List D} (h : zbx p M M') (hq : M.length ≤ q) : zbx p M (M'.set q ds) := ⟨by simpa using h.len, fun k hk n => by rw [List.getElem?_set_ne (by omega)]; exact h.at' k hk n⟩
theorem ztj {a b A B : Int} (h1 : 0 ≤ a) (h2 : a ≤ A) (h3 : 0 ≤ b) (h4 : b ≤ B) : 0 ≤ a * b /\ a * b ≤ A * B :=
  ⟨Int.mul_nonneg h1 h3, Int.mul_le_mul h2 h4 h3 (Int.le_trans h1 h2)⟩
def zxs : List D := [.int 2147483629, .int 2147483587, .int 2147483579, .int 2147483563, .int 2147483549, .int 2147483543, .int 2147483497, .int 2147483489, .int 2147483477, .int 2147483423, .int 2147483399, .int 2147483353, .int 2147483323]
theorem zkl (j : Int) (M : Mem) : ∃ q : Int, zgp (.lst zxs) (.int (j % 13)) M = some (.int q) /\ 0 < q /\ q < 2147483648 := by
  have h1 : 0 ≤ j % 13 := Int.emod_nonneg _ (by decide)
  have h2 : j % 13 < 13 := Int.emod_lt_of_pos _ (by decide)
  generalize j % 13 = i at h1 h2
  have : i = 0 \/ i = 1 \/ i = 2 \/ i = 3 \/ i = 4 \/ i = 5 \/ i = 6 \/ i = 7 \/ i = 8 \/ i = 9 \/ i = 10 \/ i = 11 \/ i = 12 := by omega
  rcases this with rfl | rfl | rfl | rfl | rfl | rfl | rfl | rfl | rfl | rfl | rfl | rfl | rfl <;> exact ⟨_, rfl, by decide, by decide⟩
section
variable {P : Nat -> Option Df} (h : zjr P) {M : Mem}
include h
theorem zsk (n : Nat) {x a : Int} (h0 : 0 ≤ a) (h1 : a ≤ 1000000) : okE (zay P (n + 1) 28 [.int x, .int a] M) fun d M' => M' = M /\ ∃ v : Int, d = .int v /\ 0 ≤ v := by
  refine za5 h.law_spread rfl ?_
  simp [-zqt, zf0]
  by_cases hx : (1000000000000000000 : Int) ≤ x
  · exact .inr ⟨hx, by omega⟩
  · have r1 := Int.emod_nonneg x (show (1000000007 : Int) ≠ 0 by decide)
    have r2 := Int.emod_lt_of_pos x (show (0 : Int) < 1000000007 by decide)
    have r3 := Int.emod_nonneg x (show (65537 : Int) ≠ 0 by decide)
    have r4 := Int.emod_lt_of_pos x (show (0 : Int) < 65537 by decide)
    obtain ⟨m1, m2⟩ := ztj r1 (Int.le_of_lt r2) (show 0 ≤ 2 * a + 69069 by omega) (show 2 * a + 69069 ≤ 2069069 by omega)
    refine .inl ⟨by omega, by decide, by decide, by decide, .inl ⟨by omega, by omega⟩, by omega, ?_⟩
    obtain ⟨q1, e1, p1, p2⟩ := zkl a M
    refine ⟨.int q1, e1, ?_⟩
    generalize (x % 1000000007 * (2 * a + 69069) + a * 40503 + 977) ^ 3 = y1
    have b1 := Int.emod_nonneg y1 (show q1 ≠ 0 by omega)
    have b2 := Int.emod_lt_of_pos y1 p1
    generalize hz1 : y1 % q1 = one at b1 b2
    obtain ⟨m3, m4⟩ := ztj b1 (show one ≤ 2147483648 by omega) (show 0 ≤ a + 3 by omega) (show a + 3 ≤ 1000003 by omega)
    simp only [zlj, zpa, zgf, zow, hz1]
    refine ⟨p1, .inr ⟨by omega, by omega⟩, ⟨by decide, by decide, by omega⟩, ?_⟩
    obtain ⟨q2, e2, p3, p4⟩ := zkl (a + 5) M
    refine ⟨.int q2, e2, ?_⟩
    generalize (one * (a + 3) + x % 65537 + 5) ^ (5 : Int).toNat = y2
    have b3 := Int.emod_nonneg y2 (show q2 ≠ 0 by omega)
    have b4 := Int.emod_lt_of_pos y2 p3
    generalize hz2 : y2 % q2 = two at b3 b4
    have r5 := Int.emod_nonneg one (show (1009 : Int) ≠ 0 by decide)
    have r6 := Int.emod_lt_of_pos one (show (0 : Int) < 1009 by decide)
    simp only [zlj, zpa, zgf, zow, hz2]
    refine ⟨p3, by decide, ⟨by decide, by decide, by omega⟩, ?_⟩
    obtain ⟨q3, e3, p5, p6⟩ := zkl (a + 7) M
    refine ⟨.int q3, e3, ?_⟩
    generalize (two + one % 1009 + a) ^ (3 : Int).toNat = y3
    have b5 := Int.emod_nonneg y3 (show q3 ≠ 0 by omega)
    simp only [zlj, zpa, zgf, zow]
    refine ⟨p5, .inr ⟨by decide, by decide⟩, .inr ⟨by decide, by decide⟩, trivial, _, rfl, by omega⟩
omit h in
theorem ix30 : ixN 3 0 = some 0 := rfl
omit h in
theorem ix31 : ixN 3 1 = some 1 := rfl
omit h in
theorem ix32 : ixN 3 2 = some 2 := rfl
omit h in
theorem zmm {l : List Int} {i : Int} (h0 : 0 ≤ i) (h1 : i < l.length) : ∃ x, ((ixN l.length i).bind fun j => Option.map D.int l[j]?) = some (.int x) := by
  obtain ⟨k, rfl⟩ := Int.eq_ofNat_of_zero_le h0
  have hk : k < l.length := by omega
  refine ⟨l[k], ?_⟩
  rw [zgz hk]
  simp [hk]
def zim : GS := zae (zax (.one 4) (zap false .mod (zaw (zab 0) (gC (.int 2))) (zab 1))) (zae (zfa (zab 0) (gC (.int 2)) (zap false .fdiv (zaw (zab 0) (gC (.int 2))) (zab 1))) (zae (zas (zab 4)) (zaj)))
def zl2 (c : Call) : GS := zae (zfa (zab 0) (gC (.int 1)) (zap false .add (zab 2) (gC (.int 1)))) (zae (zfa (zab 0) (gC (.int 2)) (zam 28 c (zaa (zab 3) (zaa (zab 2) (zag))))) (zaj))
omit h in
theorem zm0 {M M1 : Mem} {p c many B : Nat} {cells : List Int} {a st : Int} {x y : Option D} (e1 : M1[p]? = some [.cell c, .int a, .int st]) (e2 : M1[c]? = some (cells.map D.int)) (lt : c < p) (a0 : 0 ≤ a) (aB : a ≤ (B + 1 : Nat)) (s0 : 0 ≤ st) (k : zbx p M M1)
    (h0 : 0 < many) (h1 : many ≤ 10000000) : okE (zim [some (.cell p), some (nD many), x, y, none] M1) (zh6 fun d M' => ∃ v : Nat, d = nD v /\ v < many /\ zba M' p (B + 1) /\ zbx p M M') := by
  have hp : p < M1.length := (List.getElem?_eq_some_iff.mp e1).1
  have ne : c ≠ p := Nat.ne_of_lt lt
  have b0 : (0 : Int) < (many : Int) := by omega
  have r1 := Int.emod_nonneg st (show (many : Int) ≠ 0 by omega)
  have r2 := Int.emod_lt_of_pos st b0
  simp [zim, e1, ixN]
  refine ⟨by omega, by omega, (st % many).toNat, by omega, by omega, ⟨c, cells, a, st / many, ?_, ?_, lt, a0, aB, Int.ediv_nonneg s0 (by omega)⟩, k.trans zbx.set⟩
  · simp [hp]
  · rw [List.getElem?_set_ne (Ne.symm ne)]; exact e2
theorem zw4 (n : Nat) {p B many : Nat} (hp : zba M p B) (hB : B ≤ 1000000) (h0 : 0 < many) (h1 : many ≤ 10000000) : okE (zay P (n + 2) 31 [.cell p, nD many] M) fun d M' => ∃ v : Nat, d = nD v /\ v < many /\ zba M' p (B + 1) /\ zbx p M M' := by
  obtain ⟨c, cells, a, st, e1, e2, lt, a0, aB, s0⟩ := hp.ex
  have ne : c ≠ p := Nat.ne_of_lt lt
  have hpl : p < M.length := (List.getElem?_eq_some_iff.mp e1).1
  refine za5 h.law_take rfl ?_
  show okE (zae (za2 _ (zae _ (zae _ (zae _ (zl2 (zay P (n + 1)))))) _) zim [some (.cell p), some (nD many), none, none, none] M) _
  have mid : ∀ (x : Int), okE (zl2 (zay P (n + 1)) [some (.cell p), some (nD many), some (.int a), some (.int x), none] M) (zkv zim (zh6 fun d M' => ∃ v : Nat, d = nD v /\ v < many /\ zba M' p (B + 1) /\ zbx p M M')) := by
    intro x
    unfold zl2
    simp [e1, ixN]
    refine zbv (zsk h n (x := x) (a := a) a0 (by omega)) fun d M' ⟨e, v, ev, v0⟩ => ?_
    subst e ev
    refine ⟨[.cell c, .int (a + 1), .int st], by simp [hpl], 2, by simp, ?_⟩
    have k1 : zbx p M ((M.set p [.cell c, .int (a + 1), .int st]).set p ([.cell c, .int (a + 1), .int st].set 2 (.int v))) := zbx.set.trans zbx.set
    refine zm0 (c := c) (cells := cells) (a := a + 1) (st := v) ?_ ?_ lt (by omega) (by omega) v0 k1 h0 h1
    · simp [hpl]
    · rw [List.getElem?_set_ne (Ne.symm ne), List.getElem?_set_ne (Ne.symm ne)]; exact e2
  have c0 : (0 : Int) ≤ (cells.length : Int) := by omega
  simp [e1, e2, ix30, ix31, ix32, nD]
  by_cases c1 : st < many
  · refine .inr ⟨c1, ?_⟩
    by_cases c2 : a < (cells.length : Int)
    · obtain ⟨x, ex⟩ := zmm a0 c2
      exact .inr ⟨c2, _, ex, mid x⟩
    · refine .inl ⟨by omega, ?_⟩
      by_cases c3 : cells = []
      · exact .inl ⟨c3, mid 0⟩
      · have c4 : 0 < cells.length := List.length_pos_iff.mpr c3
        have r1 := Int.emod_nonneg (a * 5 + 3) (show (cells.length : Int) ≠ 0 by omega)
        have r2 := Int.emod_lt_of_pos (a * 5 + 3) (show (0 : Int) < (cells.length : Int) by omega)
        obtain ⟨x, ex⟩ := zmm r1 r2
        refine .inr ⟨c4, _, ex, ?_⟩
        simp only [zlj]
        exact ⟨by omega, mid _⟩
  · refine .inl ⟨by omega, ?_⟩
    exact zm0 e1 e2 lt a0 (by omega) s0 .refl h0 h1
end
end LD
namespace LD
open PySem
def zbu.withC : zbu -> Nat -> zbu
  | .turn a t _, c => .turn a t c
  | .join a o t _, c => .join a o t c
  | .move a o _, c => .move a o c
  | .put a x _, c => .put a x c
theorem zug {w p c : Nat} {d : zbu} (h : zfn w p d) (hc : zfo c) : zfn w p (d.withC c) := by
  cases d with
  | turn => exact ⟨h.1, h.2.1, hc⟩
  | join => exact ⟨h.1, h.2.1, h.2.2.1, hc⟩
  | move => exact ⟨h.1, h.2.1, hc⟩
  | put => exact ⟨h.1, h.2.1, hc⟩
theorem zys {w p : Nat} {d : zbu} (h : zfn w p d) : zfo d.cost := by
  cases d with
  | turn => exact h.2.2
  | join => exact h.2.2.2
  | move => exact h.2.2
  | put => exact h.2.2
theorem zvw {d : zbu} {c : Nat} {M : Mem} {k : D -> Mem -> Prop} (hk : k (d.withC c).d M) : okE (zgn false d.d .non (.int (-1)) M) fun x M => okE (ze2 false .add x (.tup [nD c]) M) k := by
  cases d <;> (simp [zbu.d, zgn, sIx, cut]; exact ⟨by decide, hk⟩)
theorem zun (n : Nat) (d : zbu) : zav (n + 3) d.d = true := by
  have tp : ∀ (n : Nat) (l : List Nat), (l.map nD).all (zav n) = true := fun n l => by
    rw [List.all_eq_true]; intro x hx; obtain ⟨i, _, rfl⟩ := List.mem_map.mp hx; cases n <;> rfl
  cases d with
  | turn a t c => simp [zbu.d, zav, zf4, nD]; decide +kernel
  | join a o t c => simp [zbu.d, zav, nD, zf4]; decide +kernel
  | move a o c => simp [zbu.d, zav, nD]; decide +kernel
  | put a x c => simp [zbu.d, zav, nD]; decide +kernel
theorem ne_nil {M : Mem} {q : Nat} {ds : List zbu} (e : M[q]? = some (ds.map zbu.d)) : zb4 .ne (.cell q) (.lst []) M = some (!ds.isEmpty) := by
  have hp : (ds.map zbu.d).all (zav 63) = true := by
    rw [List.all_eq_true]; intro x hx; obtain ⟨d, _, rfl⟩ := List.mem_map.mp hx; exact zun 60 d
  have hv : view M (.cell q) = .lst (ds.map zbu.d) := by simp [view, e]
  have h1 : zav 64 (.lst (ds.map zbu.d)) = true := hp
  refine zqy (by rw [hv]; exact h1) rfl ?_
  rw [hv]
  cases ds <;> rfl
@[simp] theorem mul_ti {m : Bool} {x : List D} {j : Int} {M : Mem} {k : D -> Mem -> Prop} : okE (ze2 m .mul (.tup x) (.int j) M) k ↔ (x.length * j.toNat ≤ sz /\ -(2 ^ 63) ≤ j /\ j < 2 ^ 63) /\ k (.tup (List.replicate j.toNat x).flatten) M := zhp
@[simp] theorem mul_li {m : Bool} {x : List D} {j : Int} {M : Mem} {k : D -> Mem -> Prop} : okE (ze2 m .mul (.lst x) (.int j) M) k ↔ (x.length * j.toNat ≤ sz /\ -(2 ^ 63) ≤ j /\ j < 2 ^ 63) /\ okE (zb1 m (List.replicate j.toNat x).flatten M) k := zhp
theorem zpo {w : Nat} {ge : GE} {ρ : Env} {M : Mem} {kl : List D -> Mem -> Prop} (f : Nat -> Nat) (hw : w ≤ 100) (hf : ∀ k, k < w -> ge (some (.int (k : Int)) :: ρ) M = .ok (nD (f k)) M) (hk : kl (((List.range w).map f).map nD) M) :
    okE (zfc (zfr (.one 0) (zci ge) (none :: ρ)) (fun _ => some ((List.range w).map fun (k : Nat) => D.int (k : Int))) [] M) kl := by
  refine zm7 (ds := (List.range w).map fun (k : Nat) => D.int (k : Int)) (fun d => match d with | .int i => nD (f i.toNat) | _ => .non) (za9 (by simp; omega)) rfl (fun d hd => ?_) ?_
  · obtain ⟨k, hk, rfl⟩ := List.mem_map.mp hd
    exact ⟨_, rfl, hf k (List.mem_range.mp hk)⟩
  · simpa [Function.comp_def] using hk
theorem zqg {w : Nat} {f : Nat -> Nat} (hf : ∀ k, k < w -> f k < w) : zhb w ((List.range w).map f) := ⟨by simp, fun x hx => by
  obtain ⟨k, hk, rfl⟩ := List.mem_map.mp hx
  exact hf k (List.mem_range.mp hk)⟩
section
variable {P : Nat -> Option Df} (h : zjr P) {M : Mem}
include h
theorem zw7 (n : Nat) {p B : Nat} (hp : zba M p B) : okE (zay P (n + 1) 30 [.cell p] M) fun d M' => d = .cell p /\ zba M' p B /\ zbx p M M' := by
  obtain ⟨c, cells, a, st, e1, e2, lt, a0, aB, s0⟩ := hp.ex
  have ne : c ≠ p := Nat.ne_of_lt lt
  have hpl : p < M.length := (List.getElem?_eq_some_iff.mp e1).1
  refine za5 h.law_anew rfl ?_
  simp [zgv, e1, ix32]
  refine ⟨⟨c, cells, a, 0, by simp [hpl], ?_, lt, a0, aB, by omega⟩, zbx.set⟩
  rw [List.getElem?_set_ne (Ne.symm ne)]; exact e2
abbrev Drawn (M : Mem) (p B : Nat) (Q : D -> Prop) : D -> Mem -> Prop := fun d M' => Q d /\ zba M' p B /\ zbx p M M'
theorem tk (n : Nat) {p B many : Nat} {k : D -> Mem -> Prop} (hp : zba M p B) (hB : B ≤ 1000000) (h0 : 0 < many) (h1 : many ≤ 10000000) (hk : ∀ (v : Nat) (M' : Mem), v < many -> zba M' p (B + 1) -> zbx p M M' -> k (nD v) M') : okE (zay P (n + 2) 31 [.cell p, nD many] M) k :=
  zbv (zw4 h n hp hB h0 h1) fun d M' ⟨v, e, hv, hp', hk'⟩ => by subst e; exact hk v M' hv hp' hk'
theorem zsj (n : Nat) {p B w : Nat} (hp : zba M p B) (hB : B ≤ 900000) (w2 : 2 ≤ w) (w4 : w ≤ 4) : okE (zay P (n + 3) 32 [.cell p, nD w] M) fun d M' => ∃ t, d = zf4 t /\ zhb w t /\ zba M' p (B + 7) /\ zbx p M M' := by
  refine za5 h.law_tab rfl ?_
  simp only [zha, zbi, zdq, zdj, zcm, zc2, e_c, zcr]
  simp only [Option.some.injEq, exists_eq_left', List.getElem?_cons_zero, List.getElem?_cons_succ, Option.getD_some, List.map_cons, List.map_nil, List.cons_append, List.nil_append]
  refine tk h n (many := 6) hp (by omega) (by decide) (by decide) fun kind M1 hk p1 k1 => ?_
  simp [nD]
  refine tk h n p1 (by omega) (by omega) (by omega) fun word M2 hw p2 k2 => ?_
  simp [nD]
  refine tk h n p2 (by omega) (by omega) (by omega) fun other M3 ho p3 k3 => ?_
  have K3 := (k1.trans k2).trans k3
  simp [nD]
  have fin : ∀ (l : List Nat) (M' : Mem), zhb w l -> zba M' p (B + 7) -> zbx p M M' -> (l.map nD).length ≤ sz /\ ∃ t, D.tup (l.map nD) = zf4 t /\ zhb w t /\ zba M' p (B + 7) /\ zbx p M M' := fun l M' hl hp' hk' => ⟨za9 (by simp [hl.1]; omega), l, rfl, hl, hp', hk'⟩
  have p7 : zba M3 p (B + 7) := p3.mono (by omega)
  by_cases c1 : kind < 2
  · refine .inr ⟨by omega, by omega, ?_⟩
    refine comp_map (ds := (List.range w).map fun (k : Nat) => D.int (k : Int)) (fun i acc M' => ∃ t : List Nat, acc = t.map nD /\ (∀ x ∈ t, x < w) /\ zba M' p (B + 3 + i) /\ zbx p M M') (za9 (by simp; omega)) (fun _ _ _ _ => rfl) ⟨[], rfl, by simp, p3, K3⟩ ?_ ?_
    · rintro i d acc M' hd _ ⟨t, rfl, ht, hp', hk'⟩
      have hi : i < w := by
        have := (List.getElem?_eq_some_iff.mp hd).1
        simpa using this
      refine ⟨_, rfl, ?_⟩
      simp
      refine tk h n hp' (by omega) (by omega) (by omega) fun v M4 hv p4 k4 => ⟨t ++ [v], by simp, fun x hx => ?_, p4.mono (by omega), hk'.trans k4⟩
      rcases List.mem_append.mp hx with z | z
      · exact ht x z
      · simp at z; omega
    · rintro acc M' hl ⟨t, rfl, ht, hp', hk'⟩
      simp at hl
      exact fin t M' ⟨hl, ht⟩ (hp'.mono (by simp; omega)) hk'
  refine .inl ⟨by omega, ?_⟩
  by_cases c2 : kind = 2
  · refine .inr ⟨by omega, by omega, ?_⟩
    refine zpo (fun k => (k + 1 + word) % w) (by omega) (fun k hk => za1 ?_) (fin _ M3 (zqg fun k _ => Nat.mod_lt _ (by omega)) p7 K3)
    simp
    omega
  refine .inl ⟨by omega, ?_⟩
  by_cases c3 : kind = 3
  · refine .inr ⟨by omega, by omega, ?_⟩
    refine zpo (fun k => if k = word then other else k) (by omega) (fun k hk => za1 ?_) (fin _ M3 (zqg fun k hk => by split <;> omega) p7 K3)
    by_cases ck : k = word
    · simp [ck]
    · have : ¬ ((k : Int) = (word : Int)) := by omega
      simp [ck, this]
  refine .inl ⟨by omega, ?_⟩
  by_cases c4 : kind = 4
  · refine .inr ⟨by omega, by decide, ⟨za9 (by omega), by omega⟩, List.replicate w word, ?_, ⟨by simp, fun x hx => by rw [List.eq_of_mem_replicate hx]; exact hw⟩, p7, K3⟩
    simp [zf4, nD]
  · refine .inl ⟨by omega, by omega, za9 (by omega), word, zgz hw, other, zgz ho, ((List.range w).set word other).set other word, ?_, ⟨by simp, fun x hx => ?_⟩, p7.app, K3.trans zbx.app⟩
    · simp [zf4, nD, List.map_set]
    · rcases List.mem_or_eq_of_mem_set hx with z | z
      · rcases List.mem_or_eq_of_mem_set z with y | y
        · exact List.mem_range.mp y
        · omega
      · omega
theorem zut (n : Nat) {p B w pl : Nat} (hp : zba M p B) (hB : B ≤ 800000) (w2 : 2 ≤ w) (w4 : w ≤ 4) (p1 : 1 ≤ pl) (p2 : pl ≤ 2) : okE (zay P (n + 4) 33 [.cell p, nD w, nD pl] M) fun d M' => ∃ e : zbu, d = e.d /\ zfn w pl e /\ zba M' p (B + 40) /\ zbx p M M' := by
  refine za5 h.law_deed rfl ?_
  simp only [zgu, zbi, zdq, zdj, zcm, zc2, e_c, zcr]
  simp only [Option.some.injEq, exists_eq_left', List.getElem?_cons_zero, List.getElem?_cons_succ, Option.getD_some, List.map_cons, List.map_nil, List.cons_append, List.nil_append]
  refine tk h (n + 1) (many := 8) hp (by omega) (by decide) (by decide) fun kind M1 hk q1 k1 => ?_
  simp [nD]
  refine tk h (n + 1) (many := 3) q1 (by omega) (by decide) (by decide) fun price M2 hc q2 k2 => ?_
  simp [nD]
  refine tk h (n + 1) q2 (by omega) (by omega) (by omega) fun at_ M3 ha q3 k3 => ?_
  simp [nD]
  refine tk h (n + 1) q3 (by omega) (by omega) (by omega) fun other M4 ho q4 k4 => ?_
  have K4 := ((k1.trans k2).trans k3).trans k4
  simp [nD]
  have ec : (1 + (price : Int)) = ((1 + price : Nat) : Int) := by omega
  have co : zfo (1 + price) := ⟨by omega, by omega⟩
  rw [ec]
  by_cases c1 : kind < 3
  · refine .inr ⟨by omega, zbv (zsj h n q4 (by omega) w2 w4) fun d M' ⟨t, e, ht, hp', hk'⟩ => ⟨by decide, .turn at_ t (1 + price), ?_, ⟨ha, ht, co⟩, hp'.mono (by omega), K4.trans hk'⟩⟩
    subst e; rfl
  refine .inl ⟨by omega, ?_⟩
  by_cases c2 : kind < 5
  · refine .inr ⟨by omega, ?_⟩
    by_cases c3 : kind = 3
    · refine .inr ⟨by omega, by omega, by decide, .move at_ ((at_ + 1) % pl) (1 + price), ?_, ⟨ha, Nat.mod_lt _ (by omega), co⟩, q4.mono (by omega), K4⟩
      simp [zbu.d, nD]
    · exact .inl ⟨by omega, by decide, .move at_ other (1 + price), rfl, ⟨ha, ho, co⟩, q4.mono (by omega), K4⟩
  refine .inl ⟨by omega, ?_⟩
  by_cases c4 : kind = 5
  · exact .inr ⟨by omega, tk h (n + 1) q4 (by omega) (by omega) (by omega) fun v M5 hv q5 k5 => ⟨by decide, .put at_ v (1 + price), rfl, ⟨ha, hv, co⟩, q5.mono (by omega), K4.trans k5⟩⟩
  · refine .inl ⟨by omega, by omega, ?_⟩
    refine comp_map (ds := (List.range w).map fun (k : Nat) => D.int (k : Int)) (fun i acc M' => ∃ t : List (List Nat), acc = t.map zf4 /\ (∀ x ∈ t, zhb w x) /\ zba M' p (B + 4 + i * 7) /\ zbx p M M') (za9 (by simp; omega)) (fun _ _ _ _ => rfl) ⟨[], rfl, by simp, q4, K4⟩ ?_ ?_
    · rintro i d acc M' hd _ ⟨t, rfl, ht, hp', hk'⟩
      have hi : i < w := by
        have := (List.getElem?_eq_some_iff.mp hd).1
        simpa using this
      refine ⟨_, rfl, ?_⟩
      simp
      refine zbv (zsj h n hp' (by omega) w2 w4) fun d M4 ⟨v, e, hv, p4, k4⟩ => ⟨t ++ [v], by subst e; simp, fun x hx => ?_, p4.mono (by omega), hk'.trans k4⟩
      rcases List.mem_append.mp hx with z | z
      · exact ht x z
      · simp at z; subst z; exact hv
    · rintro acc M' hl ⟨t, rfl, ht, hp', hk'⟩
      simp at hl
      refine ⟨za9 (by simp [hl]; omega), by decide, .join at_ other t (1 + price), rfl, ⟨ha, ho, ⟨hl, ht⟩, co⟩, hp'.mono (by simp; omega), hk'⟩
theorem zq3 (n : Nat) {p B W Pl mo : Nat} (hp : zba M p B) (hB : B ≤ 700000) (W2 : 2 ≤ W) (W4 : W ≤ 4) (P1 : 1 ≤ Pl) (P2 : Pl ≤ 2) (m1 : 1 ≤ mo) (m6 : mo ≤ 6) : okE (zay P (n + 5) 34 [.cell p, nD W, nD Pl, nD mo] M) fun d M' => ∃ m : zf6, d = m.d /\ zp1 m /\ m.words ≤ W /\ m.places ≤ Pl /\ m.deeds.length ≤ mo /\ zba M' p (B + 300) /\ zbx p M M' := by
  refine za5 h.law_machine rfl ?_
  simp only [zfv, zbi, zdq, zdj, zcm, zc2, e_c, zcr, zhx]
  simp only [Option.some.injEq, exists_eq_left', List.getElem?_cons_zero, List.getElem?_cons_succ, Option.getD_some, List.map_cons, List.map_nil, List.cons_append, List.nil_append, zkx, nD]
  rw [show ((W : Int) - 1) = ((W - 1 : Nat) : Int) by omega]
  refine tk h (n + 2) hp (by omega) (by omega) (by omega) fun w M1 hw q1 k1 => ?_
  simp [nD]
  refine tk h (n + 2) q1 (by omega) (by omega) (by omega) fun pl M2 hpl q2 k2 => ?_
  simp [nD]
  have pl2 : p < M2.length := q2.lt
  have K2 := k1.trans k2
  refine tk h (n + 2) q2.app (by omega) (by omega) (by omega) fun many M3 hmany q3 k3 => ?_
  have e3 : M3[M2.length]? = some [] := k3.get (by simp) (by omega)
  have K3 : zbx p M M3 := K2.trans (zbx.app.trans k3)
  have ML : M.length ≤ M2.length := K2.len
  simp only [zgf, D.int.injEq, exists_eq_left']
  refine ⟨⟨by omega, by omega⟩, ?_⟩
  rw [show (1 + (many : Int)).toNat = 1 + many by omega]
  generalize hq : M2.length = q at *
  refine zii (ds := (List.range (1 + many)).map fun (k : Nat) => D.int (k : Int)) (fun i ρ M' => ∃ ds : List zbu, M'[q]? = some (ds.map zbu.d) /\ ds.length = i /\ (∀ d ∈ ds, zfn (2 + w) (1 + pl) d) /\ zba M' p (B + 3 + i * 45) /\ zbx p M M' /\ ∃ a b c, ρ = [some (.cell p), some (nD (2 + w)), some (nD (1 + pl)), some (nD mo), some (.cell q), a, b, c])
    (fun _ _ _ _ => rfl) ⟨[], e3, rfl, by simp, q3, K3, none, none, none, by simp [nD]⟩ ?_ ?_
  · rintro i d ρ M' hd ⟨ds, e4, hl, hds, q4, K4, a, b, c, rfl⟩
    have hi : i < 1 + many := by
      have := (List.getElem?_eq_some_iff.mp hd).1
      simpa using this
    refine ⟨_, rfl, ?_⟩
    have fin : ∀ (e : zbu) (M'' : Mem) (x y : Option D), zfn (2 + w) (1 + pl) e -> M''[q]? = some (ds.map zbu.d) -> zba M'' p (B + 3 + (i + 1) * 45) -> zbx p M M'' ->
        ∃ es : List zbu, (M''.set q (ds.map zbu.d ++ [e.d]))[q]? = some (es.map zbu.d) /\ es.length = i + 1 /\ (∀ d ∈ es, zfn (2 + w) (1 + pl) d) /\ zba (M''.set q (ds.map zbu.d ++ [e.d])) p (B + 3 + (i + 1) * 45) /\ zbx p M (M''.set q (ds.map zbu.d ++ [e.d])) := by
      intro e M'' x y he e5 q5 K5
      refine ⟨ds ++ [e], ?_, by simp [hl], fun d hd => ?_, q5.setq (by omega), K5.setq (by omega)⟩
      · rw [List.getElem?_set_self (List.getElem?_eq_some_iff.mp e5).1]; simp
      · rcases List.mem_append.mp hd with z | z
        · exact hds d z
        · simp at z; subst z; exact he
    simp only [zbi, zdq, zdj, zcm, zc2, e_c, zcr, zcz]
    simp [nD]
    refine tk h (n + 2) (many := 5) q4 (by omega) (by decide) (by decide) fun again M5 ha q5 k5 => ?_
    have e5 := k5.get e4 (by omega)
    simp [nD]
    rw [show (2 + (w : Int)) = ((2 + w : Nat) : Int) by omega, show (1 + (pl : Int)) = ((1 + pl : Nat) : Int) by omega]
    refine zbv (zut h n (w := 2 + w) (pl := 1 + pl) q5 (by omega) (by omega) (by omega) (by omega) (by omega)) fun d6 M6 ⟨e, ed, he, q6, k6⟩ => ?_
    subst ed
    have e6 := k6.get e5 (by omega)
    have K6 := (K4.trans k5).trans k6
    have sm : ∀ l : List zbu, l.length ≤ 50 -> (l.map zbu.d).length < sz := fun l hl => Nat.lt_of_le_of_lt (show (l.map zbu.d).length ≤ 50 by simpa using hl) (by decide)
    have hsm := sm ds (by omega)
    by_cases c1 : again = 0
    · refine .inr ⟨c1, ?_⟩
      cases hde : ds with
      | nil =>
        refine .inl ⟨by rw [ne_nil e6, hde]; rfl, _, e6, hsm, fin e M6 none none he e6 (q6.mono (by omega)) K6⟩
      | cons d0 dr =>
        have hpos : 0 < ds.length := by rw [hde]; simp
        refine .inr ⟨by rw [ne_nil e6, hde]; rfl, _, e6, ?_⟩
        rw [List.length_map]
        refine tk h (n + 2) q6 (by omega) hpos (by omega) fun v M7 hv q7 k7 => ?_
        have e7 := k7.get e6 (by omega)
        refine ⟨(ds.getD v e).d, ?_, rfl, rfl, ?_⟩
        · show (M7[q]?).bind (fun ds => (ixN ds.length (v : Int)).bind fun j => ds[j]?) = _
          rw [e7]
          show (ixN (ds.map zbu.d).length (v : Int)).bind (fun j => (ds.map zbu.d)[j]?) = _
          rw [zgz (by simpa using hv)]
          simp [List.getD_eq_getElem?_getD, hv]
        · refine zbv (zvw (d := ds.getD v e) (c := e.cost) (k := fun x M_4 => ∃ x_2, M_4[q]? = some x_2 /\ x_2.length < sz /\ ∃ es : List zbu, (List.set M_4 q (x_2 ++ [x]))[q]? = some (es.map zbu.d) /\ es.length = i + 1 /\ (∀ d ∈ es, zfn (2 + w) (1 + pl) d) /\ zba (List.set M_4 q (x_2 ++ [x])) p (B + 3 + (i + 1) * 45) /\ zbx p M (List.set M_4 q (x_2 ++ [x]))) ?_) fun x1 M3 hx => ⟨nD e.cost, zts, by decide, hx⟩
          exact ⟨_, e7, hsm, fin _ M7 none none (zug (hds _ (getD_mem hv)) (zys he)) e7 (q7.mono (by omega)) (K6.trans k7)⟩
    · exact .inl ⟨c1, _, e6, hsm, fin e M6 none none he e6 (q6.mono (by omega)) K6⟩
  · rintro ρ M' ⟨ds, e4, hl, hds, q4, K4, a, b, c, rfl⟩
    simp [e4]
    refine ⟨by decide, ⟨2 + w, 1 + pl, ds⟩, rfl, ⟨by show 2 ≤ 2 + w; omega, by show 2 + w ≤ 4; omega, by show 1 ≤ 1 + pl; omega, by show 1 + pl ≤ 2; omega, ?_, ?_, hds⟩, by show 2 + w ≤ W; omega, by show 1 + pl ≤ Pl; omega, ?_, q4.mono ?_, K4⟩
    · show 1 ≤ ds.length; simp at hl; omega
    · show ds.length ≤ 6; simp at hl; omega
    · show ds.length ≤ mo; simp at hl; omega
    · simp; omega
end
end LD
namespace LD
open PySem
theorem zw9 {xs : List D} {a b : Nat} {M : Mem} {k : D -> Mem -> Prop} : okE (zgn false (.frz xs) (.int a) (.int b) M) k ↔ (cut xs (min a xs.length) (min b xs.length)).length ≤ sz /\ k (.lst (cut xs (min a xs.length) (min b xs.length))) M := by
  show okE (match sIx xs.length 0 (.int a), sIx xs.length xs.length (.int b) with | some l, some h => zb1 false (cut xs l h) M | _, _ => .bad) k ↔ _
  have e1 : sIx xs.length 0 (.int a) = some (min a xs.length) := by
    show some _ = _
    rw [if_neg (by omega)]; simp
  have e2 : sIx xs.length xs.length (.int b) = some (min b xs.length) := by
    show some _ = _
    rw [if_neg (by omega)]; simp
  rw [e1, e2]
  exact ze8
theorem zuw {xs : List D} {b : Nat} {M : Mem} {k : D -> Mem -> Prop} : okE (zgn false (.frz xs) .non (.int b) M) k ↔ (cut xs 0 (min b xs.length)).length ≤ sz /\ k (.lst (cut xs 0 (min b xs.length))) M := by
  show okE (match sIx xs.length 0 D.non, sIx xs.length xs.length (.int b) with | some l, some h => zb1 false (cut xs l h) M | _, _ => .bad) k ↔ _
  have e2 : sIx xs.length xs.length (.int b) = some (min b xs.length) := by
    show some _ = _
    rw [if_neg (by omega)]; simp
  rw [e2]
  exact ze8
theorem zqv {α β : Type} (f : α -> β) (l : List α) (a b : Nat) : cut (l.map f) a b = (cut l a b).map f := by simp [cut, List.map_take, List.map_drop]
theorem zmo {α : Type} (l : List α) (a b : Nat) : (cut l a b).length ≤ l.length := by simp [cut]; omega
section
variable {P : Nat -> Option Df} (h : zjr P) {M : Mem}
include h
theorem zw6 (n : Nat) {ns : List Int} (hn : ns.length ≤ 63) : okE (zay P (n + 1) 29 [.frz (ns.map D.int)] []) fun d M' => d = .cell 1 /\ zba M' 1 0 := by
  refine za5 h.law_open rfl ?_
  simp [zgt, zcu]
  refine (zuw (b := 12)).mpr ⟨?_, ?_⟩
  · exact za9 (Nat.le_trans (zmo _ _ _) (by simp; omega))
  simp only [zvl, zx5]
  refine ⟨za9 (Nat.le_trans (zmo _ _ _) (by simp; omega)), (zw9 (a := 12) (b := 63)).mpr ⟨za9 (Nat.le_trans (zmo _ _ _) (by simp; omega)), ⟨rfl, rfl⟩, ?_⟩⟩
  rw [zqv, zqv]
  simp only [List.length_map, List.length_nil, List.nil_append]
  have e63 : min 63 ns.length = ns.length := by omega
  rw [e63]
  refine zii (ds := ze1 0 ((cut ns (min 12 ns.length) ns.length).map D.int)) (fun i ρ M' => ∃ l : List Int, M' = [l.map D.int] /\ l.length = min 12 ns.length /\ ∃ a b, ρ = [some (.frz (ns.map D.int)), some (.cell 0), a, b]) (fun _ _ _ _ => rfl) ⟨cut ns 0 (min 12 ns.length), rfl, by simp [cut], none, none, rfl⟩ ?_ ?_
  · rintro i d ρ M' hd ⟨l, rfl, hl, a, b, rfl⟩
    rw [zjk, List.getElem?_map] at hd
    cases e : (cut ns (min 12 ns.length) ns.length)[i]? with
    | none => rw [e] at hd; cases hd
    | some x =>
      rw [e] at hd
      have hd : D.tup [.int ((0 + i : Nat) : Int), .int x] = d := Option.some.inj hd
      subst hd
      have hi := (List.getElem?_eq_some_iff.mp e).1
      have hlen : 12 < ns.length := by
        by_cases c : 12 < ns.length
        · exact c
        · have : min 12 ns.length = ns.length := by omega
          rw [this] at hi
          simp [cut] at hi
      have l12 : l.length = 12 := by omega
      have r1 := Int.emod_nonneg (i : Int) (show (12 : Int) ≠ 0 by decide)
      have r2 := Int.emod_lt_of_pos (i : Int) (show (0 : Int) < 12 by decide)
      obtain ⟨y, ey⟩ := zmm (l := l) r1 (by rw [l12]; exact r2)
      obtain ⟨k, ek⟩ : ∃ k : Nat, (i : Int) % 12 = (k : Int) := ⟨((i : Int) % 12).toNat, by omega⟩
      refine ⟨_, rfl, ?_⟩
      simp
      rw [ek] at ey ⊢
      have hk : k < l.length := by omega
      refine ⟨_, ey, ?_⟩
      simp only [zgf]
      refine ⟨l.map D.int, rfl, k, ?_, l.set k (y + x), ?_, by simp [hl]⟩
      · simpa using zgz hk
      · simp [List.map_set]
  · rintro ρ M' ⟨l, rfl, hl, a, b, rfl⟩
    simp
    exact ⟨by decide, ⟨0, l, 0, 0, rfl, rfl, by decide, by decide, by decide, by decide⟩⟩
end
end LD
namespace LD
open PySem
theorem Sub.keep {p : Nat} {M M' : Mem} (h : Sub M M') : zbx p M M' := ⟨h.len, fun k hk _ => h.at' k hk⟩
theorem Sub.pen {p B : Nat} {M M' : Mem} (h : Sub M M') (hp : zba M p B) : zba M' p B := by
  obtain ⟨c, cells, a, st, e1, e2, r⟩ := hp.ex
  exact ⟨c, cells, a, st, h.get e1, h.get e2, r⟩
structure Has07 (P : Nat -> Option Df) : Prop where
  m : zjs P
  p : zjr P
  row : P 35 = some ⟨3, 6, zlw⟩
  h14 : P 14 = some ⟨2, 5, zmt⟩
  h15 : P 15 = some ⟨1, 6, zjn⟩
  h19 : P 19 = some ⟨2, 2, b_cost⟩
  h26 : P 26 = some ⟨3, 3, b_run⟩
  h27 : P 27 = some ⟨2, 2, zkc⟩
  h46 : P 46 = some ⟨2, 2, zng⟩
  h47 : P 47 = some ⟨2, 2, znq⟩
  right : P 36 = some ⟨3, 9, zpv⟩
  law : P 37 = some ⟨1, 9, b_law⟩
section
variable {P : Nat -> Option Df} (h : Has07 P) {M : Mem}
include h
end
end LD
namespace LD
open PySem
structure HasB (P : Nat -> Option Df) : Prop where
  after : P 41 = some ⟨2, 4, zpw⟩
  begins : P 42 = some ⟨1, 1, znt⟩
structure HasS (P : Nat -> Option Df) : Prop extends HasB P where
  same : P 40 = some ⟨2, 2, zfz⟩
@[simp] theorem zvk {m : Bool} {ds : List D} {M : Mem} {k : D -> Mem -> Prop} : okE (zfk (.list m) [.tup ds] M) k ↔ okE (zb1 m ds M) k := Iff.rfl
theorem zck {x y : Str} {b : Bool} (e : eqD (.str x) (.str y) = some b) (M : Mem) : zb4 .eq (.str x) (.str y) M = some b := by
  show (match eqD (.str x) (.str y) with | some r => some r | none => _) = _
  rw [e]
section
variable {P : Nat -> Option Df} (h : HasS P) {M : Mem}
include h
end
section
variable {P : Nat -> Option Df} (h : HasB P) {M : Mem}
include h
end
end LD
namespace LD
open PySem
section
variable {ρ : Env} {M : Mem} {a b d : GE} {k : D -> Mem -> Prop} {kw : Walk -> Mem -> Prop} {kf : Fl -> Mem -> Prop}
@[simp] theorem w_zip3 : okE (zrw a b d ρ M) kw ↔ okE (a ρ M) fun x M => okE (b ρ M) fun y M => okE (d ρ M) fun z M => (zeh x && zeh y && zeh z) = true /\ kw (zipW3 x y z) M := by
  simp only [zrw, zbn]; refine iff_of_eq ?_; congr 1; funext x M; congr 1; funext y M; congr 1; funext z M; split <;> simp_all
@[simp] theorem e_rev {m : Bool} : okE (gRev m a ρ M) k ↔ okE (a ρ M) fun x M => okE (revD m x M) k := by simp [gRev]
@[simp] theorem rev_lst {m : Bool} {xs : List D} : okE (revD m (.lst xs) M) k ↔ okE (zb1 m xs.reverse M) k := Iff.rfl
@[simp] theorem zxc {m : Bool} {xs : List D} : okE (revD m (.tup xs) M) k ↔ k (.tup xs.reverse) M := Iff.rfl
@[simp] theorem s_par_ {i j : Nat} {gs : GA} : okE (sPar i j gs ρ M) kf ↔ okE (gs ρ M) fun ds M => ∃ a b, ds = [a, b] /\ kf (.next ((ρ.set i (some a)).set j (some b))) M := by
  simp only [sPar, zbn]; refine iff_of_eq ?_; congr 1; funext ds M
  match ds with
  | [] => simp
  | [_] => simp
  | [_, _] => simp; exact ⟨fun q => ⟨_, _, ⟨rfl, rfl⟩, q⟩, fun ⟨_, _, ⟨e1, e2⟩, q⟩ => by subst e1 e2; exact q⟩
  | _ :: _ :: _ :: _ => simp
@[simp] theorem e_int_ : okE (gInt a ρ M) k ↔ okE (a ρ M) fun x M => (∃ i, x = .int i /\ k (.int i) M) \/ ∃ b, x = .bl b /\ k (.int (if b = true then 1 else 0)) M := by
  simp only [gInt, zbn]; refine iff_of_eq ?_; congr 1; funext x M; cases x <;> simp
end
def ends (m : zf6) (r : List Nat) : List (List Nat) := (begs m).map (endS m r)
section
variable {P : Nat -> Option Df} (h : HasB P) {M : Mem}
include h
end
structure HasA (P : Nat -> Option Df) : Prop where
  h15 : P 15 = some ⟨1, 6, zjn⟩
  h27 : P 27 = some ⟨2, 2, zkc⟩
  h46 : P 46 = some ⟨2, 2, zng⟩
  parted : P 48 = some ⟨3, 8, zv3⟩
section
variable {P : Nat -> Option Df} {M : Mem}
end
end LD
namespace LD
open PySem
theorem Sub.to {p : Nat} {M M1 M' : Mem} (k : zbx p M M1) (h : Sub M1 M') : zbx p M M' := k.trans h.keep
def pairD (p : List Nat × List Nat) : D := .tup [.lst (p.1.map nD), .lst (p.2.map nD)]
structure zt7 (m : zf6) (k : Nat) (p : List Nat × List Nat) : Prop where
  r1 : RowOk m p.1
  r2 : RowOk m p.2
  l1 : p.1.length ≤ k
  l2 : p.2.length ≤ k
  al : ends m p.1 = ends m p.2
def AllOk (m : zf6) (k : Nat) (prs : List (List Nat × List Nat)) : Prop := ∀ pr ∈ prs, zt7 m k pr
section
variable {P : Nat -> Option Df} (hp_ : zjr P) (h35 : P 35 = some ⟨3, 6, zlw⟩) (hs_ : HasB P) (he : P 44 = some ⟨2, 5, zqc⟩) (hal : P 49 = some ⟨2, 7, zjo⟩) {M : Mem}
include hp_ h35 hs_ he hal
end
end LD
namespace LD
open PySem
abbrev Rule := List Nat × List Nat
structure Stp where
  place : Nat
  num : Nat
  back : Bool
def Stp.d (s : Stp) : D := .tup [nD s.place, nD s.num, .bl s.back]
structure zqz (m : zf6) (rules : List Rule) : Prop where
  ok : AllOk m 3 rules
  len : rules.length ≤ 10
theorem zqz.at {m : zf6} {rules : List Rule} (h : zqz m rules) {i : Nat} (hi : i < rules.length) : zt7 m 3 (rules.getD i ([], [])) := h.ok _ (getD_mem hi)
end LD
namespace LD
open PySem
theorem zm8 {tg : Tgt} {w : Walk} {gc : GT} {ge : GE} {ds : List D} {ρ0 : Env} {M : Mem} {kl : List D -> Mem -> Prop} (f : D -> Bool) (g : D -> D) (hz : ds.length ≤ sz) (hw : w M = some ds)
    (hs : ∀ d ∈ ds, ∃ ρ1, zdt tg d ρ0 = some ρ1 /\ gc ρ1 M = .ok (f d) M /\ (f d = true -> ge ρ1 M = .ok (g d) M)) (hk : kl ((ds.filter f).map g) M) : okE (zfc (zfr tg (gIf gc (zci ge)) ρ0) w [] M) kl := by
  refine zkd (fun i acc M' => M' = M /\ acc = ((ds.take i).filter f).map g) (fun i acc M' h => by rw [h.1]; exact hw) ⟨rfl, rfl⟩ ?_ ?_
  · rintro i d acc M' hd ⟨rfl, rfl⟩
    obtain ⟨ρ1, e1, e2, e3⟩ := hs d (List.mem_of_getElem? hd)
    have hi : i < ds.length := (List.getElem?_eq_some_iff.mp hd).1
    simp only [zfr, e1, zvf, Res.bind_ok, gIf, e2]
    rw [List.take_succ, hd]
    cases q : f d with
    | false =>
      simp [q]
    | true =>
      rw [if_pos rfl]
      have len : (((ds.take i).filter f).map g).length ≤ i := by
        rw [List.length_map]
        exact Nat.le_trans (List.length_filter_le _ _) (by simp; omega)
      simp only [zci, e3 q, Res.bind_ok]
      rw [if_pos (by omega)]
      simp [q]
  · rintro acc M' ⟨rfl, rfl⟩
    simpa using hk
def zjq (M : Mem) (x : D) (p : Rule) : Prop := ∃ y z, x = .tup [y, z] /\ zdf M y p.1 /\ zdf M z p.2
theorem zjq.l {M : Mem} {p : Rule} : zjq M (pairD p) p := ⟨_, _, rfl, .l, .l⟩
theorem zjq.sub {M M' : Mem} {x : D} {p : Rule} (h : zjq M x p) (s : Sub M M') : zjq M' x p := let ⟨y, z, e, a, b⟩ := h; ⟨y, z, e, a.sub s, b.sub s⟩
structure HasR (P : Nat -> Option Df) : Prop where
  is_row : P 52 = some ⟨2, 2, zv5⟩
  is_rule : P 53 = some ⟨2, 4, zt6⟩
  need_rules : P 54 = some ⟨2, 4, zpu⟩
  behind : P 55 = some ⟨3, 10, znr⟩
  stepped : P 56 = some ⟨4, 8, zt5⟩
  copied : P 57 = some ⟨1, 1, zns⟩
section
variable {P : Nat -> Option Df} (h : zjs P) (ha : HasA P) (hr_ : HasR P) {M : Mem}
include h hr_
include ha
end
section
variable {P : Nat -> Option Df} (h : zjs P) (ha : HasA P) (hr_ : HasR P) {M : Mem}
include h hr_
include ha
omit h ha in
end
end LD
namespace LD
open PySem
def Th : Nat -> Nat -> D -> Prop
  | _, _, .non => True
  | _, _, .bl _ => True
  | _, _, .int _ => True
  | _, L, .str x => x.cps.size ≤ L /\ x.cps.all (· < 0x110000) = true
  | n + 1, L, .tup ds => ds.length ≤ L /\ ∀ d ∈ ds, Th n L d
  | n + 1, L, .lst ds => ds.length ≤ L /\ ∀ d ∈ ds, Th n L d
  | _, _, _ => False
theorem Th.mono : ∀ {n n' L L' : Nat} {d : D}, Th n L d -> n ≤ n' -> L ≤ L' -> Th n' L' d
  | n, n', L, L', .non, _, _, _ => by cases n' <;> trivial
  | n, n', L, L', .bl _, _, _, _ => by cases n' <;> trivial
  | n, n', L, L', .int _, _, _, _ => by cases n' <;> trivial
  | n, n', L, L', .str x, h, _, l => by
    have h : x.cps.size ≤ L /\ x.cps.all (· < 0x110000) = true := by cases n <;> exact h
    have : x.cps.size ≤ L' /\ x.cps.all (· < 0x110000) = true := ⟨Nat.le_trans h.1 l, h.2⟩
    cases n' <;> exact this
  | n + 1, n' + 1, L, L', .tup ds, h, a, l => ⟨Nat.le_trans h.1 l, fun d hd => Th.mono (h.2 d hd) (Nat.le_of_succ_le_succ a) l⟩
  | n + 1, n' + 1, L, L', .lst ds, h, a, l => ⟨Nat.le_trans h.1 l, fun d hd => Th.mono (h.2 d hd) (Nat.le_of_succ_le_succ a) l⟩
  | n + 1, 0, L, L', .tup ds, h, a, l => by omega
  | n + 1, 0, L, L', .lst ds, h, a, l => by omega
  | 0, n', L, L', .tup ds, h, a, l => h.elim
  | 0, n', L, L', .lst ds, h, a, l => h.elim
  | n, n', L, L', .frz _, h, _, _ => by cases n <;> exact h.elim
  | n, n', L, L', .cell _, h, _, _ => by cases n <;> exact h.elim
  | n, n', L, L', .fn _, h, _, _ => by cases n <;> exact h.elim
theorem Th.pure : ∀ {n L : Nat} {d : D}, Th n L d -> zav n d = true
  | n, L, .non, _ => by cases n <;> rfl
  | n, L, .bl _, _ => by cases n <;> rfl
  | n, L, .int _, _ => by cases n <;> rfl
  | n, L, .str x, h => by cases n <;> exact h.2
  | n + 1, L, .tup ds, h => by
    show ds.all (zav n) = true
    rw [List.all_eq_true]
    exact fun d hd => (h.2 d hd).pure
  | n + 1, L, .lst ds, h => by
    show ds.all (zav n) = true
    rw [List.all_eq_true]
    exact fun d hd => (h.2 d hd).pure
  | 0, L, .tup ds, h => h.elim
  | 0, L, .lst ds, h => h.elim
  | n, L, .frz _, h => by cases n <;> exact h.elim
  | n, L, .cell _, h => by cases n <;> exact h.elim
  | n, L, .fn _, h => by cases n <;> exact h.elim
theorem Th.view {n L : Nat} {d : D} {M : Mem} (h : Th n L d) : view M d = d := by
  cases d <;> first | rfl | (cases n <;> exact h.elim)
theorem Th.tup {n L : Nat} {ds : List D} (h : Th n L (.tup ds)) : ds.length ≤ L /\ ∀ d ∈ ds, Th n L d := by
  cases n with
  | zero => exact h.elim
  | succ n => exact ⟨h.1, fun d hd => (h.2 d hd).mono (Nat.le_succ n) (Nat.le_refl L)⟩
def zbh (lo hi : Int) : D -> Bool
  | .int i => decide (lo ≤ i) && decide (i ≤ hi)
  | _ => false
def zer (w : Nat) : D -> Bool
  | .tup ds => ds.length == w
  | _ => false
def zgl (w : Nat) : D -> Bool
  | .tup ds => ds.length == w && ds.all (zbh 0 ((w : Int) - 1))
  | _ => false
def zg9 (w : Nat) : D -> Bool
  | .tup ds => ds.length == w && ds.all (zgl w)
  | _ => false
def zfq (w p : Nat) : List D -> Bool
  | [a, t, c] => zbh 0 ((p : Int) - 1) a && (zgl w t && zbh 1 3 c)
  | _ => false
def zeg (w p : Nat) : List D -> Bool
  | [a, o, t, c] => zbh 0 ((p : Int) - 1) a && (zbh 0 ((p : Int) - 1) o && (zg9 w t && zbh 1 3 c))
  | _ => false
def zfd (w p : Nat) : List D -> Bool
  | [a, o, c] => zbh 0 ((p : Int) - 1) a && (zbh 0 ((p : Int) - 1) o && zbh 1 3 c)
  | _ => false
def zgo (w p : Nat) : List D -> Bool
  | [a, x, c] => zbh 0 ((p : Int) - 1) a && (zbh 0 ((w : Int) - 1) x && zbh 1 3 c)
  | _ => false
def zct (w p : Nat) (s : Str) (ds : List D) : Bool :=
  if s = "turn" then zfq w p ds else if s = "join" then zeg w p ds else if s = "move" then zfd w p ds else if s = "put" then zgo w p ds else false
def zfe (w p : Nat) : D -> Bool
  | .tup (.str s :: ds) => zct w p s ds
  | _ => false
def zfj : D -> Bool
  | .tup ds => decide (1 ≤ ds.length) && decide (ds.length ≤ 6)
  | _ => false
def zpg : D -> List D
  | .tup ds => ds
  | _ => []
def ze0 : D -> Nat
  | .int i => i.toNat
  | _ => 0
theorem zj3 {lo hi : Int} {d : D} (h : zbh lo hi d = true) (h0 : 0 ≤ lo) : d = nD (ze0 d) /\ lo ≤ (ze0 d : Int) /\ (ze0 d : Int) ≤ hi := by
  cases d with
  | int i =>
    simp [zbh] at h
    refine ⟨?_, ?_⟩
    · show D.int i = D.int ((i.toNat : Nat) : Int)
      rw [Int.toNat_of_nonneg (by omega)]
    · show lo ≤ ((i.toNat : Nat) : Int) /\ ((i.toNat : Nat) : Int) ≤ hi
      rw [Int.toNat_of_nonneg (by omega)]
      exact h
  | _ => cases h
def zgb : D -> Bool
  | .tup [a, b, c] => zbh 2 4 a && (zbh 1 2 b && (zfj c && (zpg c).all (zfe (ze0 a) (ze0 b))))
  | _ => false
theorem zpb {d : D} (h : zer 3 d = false) : zgb d = false := by
  match d, h with
  | .tup [a, b, c], h => cases h
  | .tup [], _ => rfl
  | .tup [_], _ => rfl
  | .tup [_, _], _ => rfl
  | .tup (_ :: _ :: _ :: _ :: r), _ => rfl
  | .non, _ => rfl
  | .bl _, _ => rfl
  | .int _, _ => rfl
  | .str _, _ => rfl
  | .lst _, _ => rfl
  | .frz _, _ => rfl
  | .cell _, _ => rfl
  | .fn _, _ => rfl
structure HasQ (P : Nat -> Option Df) : Prop where
  is_between : P 0 = some ⟨3, 3, zel⟩
  is_word : P 1 = some ⟨2, 2, zg0⟩
  is_place : P 2 = some ⟨2, 2, zge⟩
  is_cost : P 3 = some ⟨1, 1, zg1⟩
  is_tuple_of : P 4 = some ⟨2, 2, zd7⟩
  is_table : P 5 = some ⟨2, 2, zgd⟩
  is_double_table : P 6 = some ⟨2, 2, zdr⟩
  is_turn : P 7 = some ⟨3, 6, zea⟩
  is_join : P 8 = some ⟨3, 7, zdv⟩
  is_move : P 9 = some ⟨3, 6, zeb⟩
  is_put : P 10 = some ⟨3, 6, ze3⟩
  is_deed : P 11 = some ⟨3, 5, zec⟩
  is_machine : P 12 = some ⟨1, 4, zek⟩
theorem zkb (f : D -> Bool) : ∀ ds : List D, boolsOf (ds.map fun d => .bl (f d)) = some (ds.map f)
  | [] => rfl
  | d :: r => by simp [boolsOf, zkb f r]
theorem all_eq {w : GW} {ge : GE} {ρ : Env} {M : Mem} {ds : List D} (f : D -> Bool) (hw : okE (w ρ M) fun wk M' => M' = M /\ wk M = some ds) (hz : ds.length ≤ sz) (he : ∀ d ∈ ds, ge (some d :: ρ) M = .ok (.bl (f d)) M) :
    zbe .all (zaa (zb7 false 1 (.one 0) w (zci ge)) zag) ρ M = .ok (.bl (ds.all f)) M := by
  refine za1 ?_
  simp only [ziw, zcm, zpl, zc2]
  refine zbv hw fun wk M' ⟨e1, e2⟩ => ?_
  subst e1
  refine zm7 (fun d => .bl (f d)) hz e2 (fun d hd => ⟨some d :: ρ, rfl, he d hd⟩) ?_
  simp only [ze8, List.length_map, zyy]
  refine ⟨hz, _, zkb f ds, ?_, trivial⟩
  congr 1
  rw [List.all_map]; rfl
section
variable {P : Nat -> Option Df} (h : HasQ P) {M : Mem} {k L : Nat} {d : D}
include h
theorem zic (n : Nat) (hd : Th k L d) (lo hi : Int) : zay P (n + 1) 0 [d, .int lo, .int hi] M = .ok (.bl (zbh lo hi d)) M := by
  cases d with
  | int t =>
    refine za1 (za5 h.is_between rfl ?_)
    simp [zel, zbo, zbh]
    by_cases h1 : lo ≤ t <;> simp [h1] <;> omega
  | fn j => cases k <;> exact hd.elim
  | _ =>
    refine za1 (za5 h.is_between rfl ?_)
    simp [zel, zbo, zbh]
theorem zoi (n : Nat) {w : Nat} (hd : Th k L d) : zay P (n + 2) 1 [nD w, d] M = .ok (.bl (zbh 0 ((w : Int) - 1) d)) M := by
  refine za1 (za5 h.is_word rfl ?_)
  simp [zg0, zic h _ hd]
theorem zf7 (n : Nat) {w : Nat} (hd : Th k L d) : zay P (n + 2) 2 [nD w, d] M = .ok (.bl (zbh 0 ((w : Int) - 1) d)) M := by
  refine za1 (za5 h.is_place rfl ?_)
  simp [zge, zic h _ hd]
theorem zin (n : Nat) (hd : Th k L d) : zay P (n + 2) 3 [d] M = .ok (.bl (zbh 1 3 d)) M := by
  refine za1 (za5 h.is_cost rfl ?_)
  simp [zg1, zic h _ hd]
theorem zjt (n : Nat) {w : Nat} (hd : Th k L d) : zay P (n + 1) 4 [nD w, d] M = .ok (.bl (zer w d)) M := by
  refine za1 (za5 h.is_tuple_of rfl ?_)
  cases d with
  | fn j => cases k <;> exact hd.elim
  | tup ds =>
    simp [zd7, zbo, zer]
    by_cases e : ds.length = w
    · simp [e]
    · have : ¬ ((ds.length : Int) = (w : Int)) := by omega
      simp [e, this]
  | _ => simp [zd7, zbo, zer]
theorem zqh (n : Nat) {w : Nat} (hd : Th k L d) (hL : L ≤ 100) : zay P (n + 3) 5 [nD w, d] M = .ok (.bl (zgl w d)) M := by
  refine za1 (za5 h.is_table rfl ?_)
  have e := zjt h (n + 1) (w := w) (M := M) hd
  simp only [zgd, zbi, zdp, e_and, zdj, zcm, zc2, zcr, List.map_cons, List.map_nil, List.cons_append, List.nil_append, List.getElem?_cons_zero, List.getElem?_cons_succ, Option.getD_some, Option.some.injEq, exists_eq_left']
  rw [e]
  refine ⟨_, rfl, ?_⟩
  cases d with
  | tup ds =>
    have ht := hd.tup
    by_cases el : ds.length = w
    · have : zer w (.tup ds) = true := by simp [zer, el]
      rw [this, if_pos rfl, all_eq (ds := ds) (zbh 0 ((w : Int) - 1)) (by simp; exact ⟨rfl, rfl⟩) (za9 (by omega)) (fun d hd => za1 (by simp [zoi h n (ht.2 d hd)]))]
      exact ⟨by simp [zgl, el], rfl⟩
    · have : zer w (.tup ds) = false := by simp [zer, el]
      rw [this, if_neg (by simp)]
      exact ⟨by simp [zgl, el], rfl⟩
  | _ => exact ⟨rfl, rfl⟩
theorem zus (n : Nat) {w : Nat} (hd : Th k L d) (hL : L ≤ 100) : zay P (n + 4) 6 [nD w, d] M = .ok (.bl (zg9 w d)) M := by
  refine za1 (za5 h.is_double_table rfl ?_)
  have e := zjt h (n + 2) (w := w) (M := M) hd
  simp only [zdr, zbi, zdp, e_and, zdj, zcm, zc2, zcr, List.map_cons, List.map_nil, List.cons_append, List.nil_append, List.getElem?_cons_zero, List.getElem?_cons_succ, Option.getD_some, Option.some.injEq, exists_eq_left']
  rw [e]
  refine ⟨_, rfl, ?_⟩
  cases d with
  | tup ds =>
    have ht := hd.tup
    by_cases el : ds.length = w
    · have : zer w (.tup ds) = true := by simp [zer, el]
      rw [this, if_pos rfl, all_eq (ds := ds) (zgl w) (by simp; exact ⟨rfl, rfl⟩) (za9 (by omega)) (fun d hd => za1 (by simp [zqh h n (ht.2 d hd) hL]))]
      exact ⟨by simp [zg9, el], rfl⟩
    · have : zer w (.tup ds) = false := by simp [zer, el]
      rw [this, if_neg (by simp)]
      exact ⟨by simp [zg9, el], rfl⟩
  | _ => exact ⟨rfl, rfl⟩
theorem zup (n : Nat) {w p : Nat} {ds : List D} (hd : ∀ d ∈ ds, Th k L d) (hL : L ≤ 100) (hl : ds.length ≤ 100) : zay P (n + 4) 7 [nD w, nD p, .tup ds] M = .ok (.bl (zfq w p ds)) M := by
  refine za1 (za5 h.is_turn rfl ?_)
  match ds, hd, hl with
  | [a, t, c], hd, _ =>
    simp only [List.mem_cons, List.not_mem_nil, or_false, forall_eq_or_imp, forall_eq] at hd
    simp [zea, zfy, zf7 h (n + 1) hd.1, zqh h n hd.2.1 hL, zin h (n + 1) hd.2.2, zfq]
    cases zbh 0 ((p : Int) - 1) a <;> cases zgl w t <;> simp
  | [], _, _ => simp [zea, zfq]
  | [_], _, _ => simp [zea, zfq]
  | [_, _], _, _ => simp [zea, zfq]
  | _ :: _ :: _ :: _ :: r, _, _ =>
    simp [zea, zfq]
    omega
theorem zur (n : Nat) {w p : Nat} {ds : List D} (hd : ∀ d ∈ ds, Th k L d) (hL : L ≤ 100) (hl : ds.length ≤ 100) : zay P (n + 5) 8 [nD w, nD p, .tup ds] M = .ok (.bl (zeg w p ds)) M := by
  refine za1 (za5 h.is_join rfl ?_)
  match ds, hd, hl with
  | [a, o, t, c], hd, _ =>
    simp only [List.mem_cons, List.not_mem_nil, or_false, forall_eq_or_imp, forall_eq] at hd
    simp [zdv, zfy, zf7 h (n + 2) hd.1, zf7 h (n + 2) hd.2.1, zus h n hd.2.2.1 hL, zin h (n + 2) hd.2.2.2, zeg]
    cases zbh 0 ((p : Int) - 1) a <;> cases zbh 0 ((p : Int) - 1) o <;> cases zg9 w t <;> simp
  | [], _, _ => simp [zdv, zeg]
  | [_], _, _ => simp [zdv, zeg]
  | [_, _], _, _ => simp [zdv, zeg]
  | [_, _, _], _, _ => simp [zdv, zeg]
  | _ :: _ :: _ :: _ :: _ :: r, _, _ =>
    simp [zdv, zeg]
    omega
theorem zuq (n : Nat) {w p : Nat} {ds : List D} (hd : ∀ d ∈ ds, Th k L d) (hL : L ≤ 100) (hl : ds.length ≤ 100) : zay P (n + 3) 9 [nD w, nD p, .tup ds] M = .ok (.bl (zfd w p ds)) M := by
  refine za1 (za5 h.is_move rfl ?_)
  match ds, hd, hl with
  | [a, t, c], hd, _ =>
    simp only [List.mem_cons, List.not_mem_nil, or_false, forall_eq_or_imp, forall_eq] at hd
    simp [zeb, zfy, zf7 h n hd.1, zf7 h n hd.2.1, zin h n hd.2.2, zfd]
    cases zbh 0 ((p : Int) - 1) a <;> cases zbh 0 ((p : Int) - 1) t <;> simp
  | [], _, _ => simp [zeb, zfd]
  | [_], _, _ => simp [zeb, zfd]
  | [_, _], _, _ => simp [zeb, zfd]
  | _ :: _ :: _ :: _ :: r, _, _ =>
    simp [zeb, zfd]
    omega
theorem zw5 (n : Nat) {w p : Nat} {ds : List D} (hd : ∀ d ∈ ds, Th k L d) (hL : L ≤ 100) (hl : ds.length ≤ 100) : zay P (n + 3) 10 [nD w, nD p, .tup ds] M = .ok (.bl (zgo w p ds)) M := by
  refine za1 (za5 h.is_put rfl ?_)
  match ds, hd, hl with
  | [a, t, c], hd, _ =>
    simp only [List.mem_cons, List.not_mem_nil, or_false, forall_eq_or_imp, forall_eq] at hd
    simp [ze3, zfy, zf7 h n hd.1, zoi h n hd.2.1, zin h n hd.2.2, zgo]
    cases zbh 0 ((p : Int) - 1) a <;> cases zbh 0 ((w : Int) - 1) t <;> simp
  | [], _, _ => simp [ze3, zgo]
  | [_], _, _ => simp [ze3, zgo]
  | [_, _], _, _ => simp [ze3, zgo]
  | _ :: _ :: _ :: _ :: r, _, _ =>
    simp [ze3, zgo]
    omega
omit h in
theorem zk8 {w p : Nat} {ds : List D} : zct w p "turn" ds = zfq w p ds := by unfold zct; rw [if_pos rfl]
omit h in
theorem zk7 {w p : Nat} {ds : List D} : zct w p "join" ds = zeg w p ds := by unfold zct; rw [if_neg (by decide +kernel), if_pos rfl]
omit h in
theorem zk6 {w p : Nat} {ds : List D} : zct w p "move" ds = zfd w p ds := by unfold zct; rw [if_neg (by decide +kernel), if_neg (by decide +kernel), if_pos rfl]
omit h in
theorem zk5 {w p : Nat} {ds : List D} : zct w p "put" ds = zgo w p ds := by unfold zct; rw [if_neg (by decide +kernel), if_neg (by decide +kernel), if_neg (by decide +kernel), if_pos rfl]
omit h in
theorem zs5 {w p : Nat} {ds : List D} {s : Str} (e1 : ¬ s = "turn") (e2 : ¬ s = "join") (e3 : ¬ s = "move") (e4 : ¬ s = "put") : zct w p s ds = false := by unfold zct; rw [if_neg e1, if_neg e2, if_neg e3, if_neg e4]
omit h in
theorem zq4 {s : Str} (e1 : ¬ s = "turn") (e2 : ¬ s = "join") (e3 : ¬ s = "move") (e4 : ¬ s = "put") : zdd.lookup s = none := by
  unfold zdd
  simp only [List.lookup, beq_eq_false_iff_ne.mpr e1, beq_eq_false_iff_ne.mpr e2, beq_eq_false_iff_ne.mpr e3, beq_eq_false_iff_ne.mpr e4]
theorem zj0 (n : Nat) {w p f : Nat} {s : Str} {ds : List D} {v : Bool} (lk : zdd.lookup s = some f) (q : zay P (n + 5) f [nD w, nD p, .tup ds] M = .ok (.bl v) M) : zay P (n + 6) 11 [nD w, nD p, .tup (.str s :: ds)] M = .ok (.bl v) M := by
  refine za1 (za5 h.is_deed rfl ?_)
  simp [-List.lookup_isSome_iff, zec, zbo, ixN, lk, zgn, sIx, zcu, cut, q]
theorem zvv (n : Nat) {w p : Nat} {s : Str} {ds : List D} (lk : zdd.lookup s = none) : zay P (n + 6) 11 [nD w, nD p, .tup (.str s :: ds)] M = .ok (.bl false) M := by
  refine za1 (za5 h.is_deed rfl ?_)
  have e : (zdd.lookup s).isSome = false := by rw [lk]; rfl
  simp [-List.lookup_isSome_iff, -List.lookup_eq_none_iff, -Option.isSome_eq_false_iff, zec, zbo, ixN, e]
  exact lk
theorem zuu (n : Nat) {w p : Nat} (hd : Th k L d) (hL : L ≤ 100) : zay P (n + 6) 11 [nD w, nD p, d] M = .ok (.bl (zfe w p d)) M := by
  cases d with
  | fn j => cases k <;> exact hd.elim
  | tup xs =>
    have ht := hd.tup
    cases xs with
    | nil =>
      refine za1 (za5 h.is_deed rfl ?_)
      simp [zec, zbo, zfe]
    | cons x ds =>
      have hx := ht.2 x List.mem_cons_self
      have hds : ∀ d ∈ ds, Th k L d := fun d hd => ht.2 d (List.mem_cons_of_mem _ hd)
      have hl : ds.length ≤ 100 := by have := ht.1; simp at this; omega
      cases x with
      | fn j => cases k <;> exact hx.elim
      | str s =>
        show _ = Res.ok (D.bl (zct w p s ds)) M
        by_cases e1 : s = "turn"
        · subst e1
          rw [zk8]; exact zj0 h n lkS1 (zup h (n + 1) hds hL hl)
        by_cases e2 : s = "join"
        · subst e2
          rw [zk7]; exact zj0 h n lkS2 (zur h n hds hL hl)
        by_cases e3 : s = "move"
        · subst e3
          rw [zk6]; exact zj0 h n lkS3 (zuq h (n + 2) hds hL hl)
        by_cases e4 : s = "put"
        · subst e4
          rw [zk5]; exact zj0 h n lkS4 (zw5 h (n + 2) hds hL hl)
        rw [zs5 e1 e2 e3 e4]
        exact zvv h n (zq4 e1 e2 e3 e4)
      | _ =>
        refine za1 (za5 h.is_deed rfl ?_)
        simp [zec, zbo, ixN, zfe]
  | _ =>
    refine za1 (za5 h.is_deed rfl ?_)
    simp [zec, zbo, zfe]
theorem zvj (n : Nat) (hd : Th k L d) (hn : zer 3 d = false) : zay P (n + 7) 12 [d] M = .ok (.bl false) M := by
  refine za1 (za5 h.is_machine rfl ?_)
  have e : zay P (n + 6) 4 [.int 3, d] M = .ok (.bl (zer 3 d)) M := zjt h (n + 5) (w := 3) (M := M) hd
  rw [hn] at e
  simp [zek, e]
theorem mach3 (n : Nat) {a b c : D} (hd : Th k L (.tup [a, b, c])) (hL : L ≤ 100) : zay P (n + 7) 12 [.tup [a, b, c]] M = .ok (.bl (zgb (.tup [a, b, c]))) M := by
  refine za1 (za5 h.is_machine rfl ?_)
  have ht := hd.tup.2
  simp only [List.mem_cons, List.not_mem_nil, or_false, forall_eq_or_imp, forall_eq] at ht
  have e : zay P (n + 6) 4 [.int 3, .tup [a, b, c]] M = .ok (.bl true) M := zjt h (n + 5) (w := 3) (M := M) hd
  have b1 := zic h (n + 5) (M := M) ht.1 2 4
  have b2 := zic h (n + 5) (M := M) ht.2.1 1 2
  simp only [zek, zbi, zi9, zdp, zcz, zof, zie, t_not, zq2, t_or, s_asgt, e_c, zdj, zcm, zc2, zcr, zpk, List.map_cons, List.map_nil, List.cons_append, List.nil_append, List.getElem?_cons_zero, List.getElem?_cons_succ, Option.getD_some, Option.some.injEq, exists_eq_left']
  rw [e]
  refine ⟨_, rfl, ?_⟩
  rw [if_neg (by simp)]
  refine ⟨_, _, rfl, rfl, _, rfl, ?_⟩
  rw [b1]
  refine ⟨_, rfl, ?_⟩
  by_cases c1 : zbh 2 4 a = false
  · rw [c1, if_pos (by decide), if_pos trivial]
    exact ⟨by simp [zgb, c1], rfl⟩
  have c1 : zbh 2 4 a = true := by simpa using c1
  rw [c1, if_neg (by simp)]
  refine ⟨_, rfl, ?_⟩
  rw [b2]
  refine ⟨_, rfl, ?_⟩
  by_cases c2 : zbh 1 2 b = false
  · rw [c2, if_pos (by decide)]
    exact ⟨by simp [zgb, c2], rfl⟩
  have c2 : zbh 1 2 b = true := by simpa using c2
  rw [c2, if_neg (by simp)]
  refine ⟨_, rfl, ?_⟩
  obtain ⟨ea, _, _⟩ := zj3 c1 (by decide)
  obtain ⟨eb, _, _⟩ := zj3 c2 (by decide)
  cases c with
  | fn j => exact absurd ht.2.2 (by cases k <;> exact id)
  | tup ds =>
    have hc := ht.2.2.tup
    refine ⟨true, rfl, true, rfl, ?_⟩
    rw [if_neg (by simp)]
    simp only [e_chn, e_c]
    refine ziw.mpr (zcm.mpr (zcr.mpr ⟨_, rfl, zc2.mpr (zml.mpr ⟨_, rfl, ?_⟩)⟩))
    by_cases l1 : (1 : Int) ≤ (ds.length : Int)
    · rw [decide_eq_true l1, if_pos (by decide)]
      refine ⟨_, rfl, _, rfl, ?_⟩
      by_cases l6 : (ds.length : Int) ≤ 6
      · rw [decide_eq_true l6, if_neg (by simp)]
        have lb : zfj (.tup ds) = true := by simp [zfj]; omega
        rw [all_eq (ds := ds) (zfe (ze0 a) (ze0 b)) (by simp; exact ⟨rfl, rfl⟩) (za9 (by omega)) (fun d hd => za1 (by
          have q := zuu h n (w := ze0 a) (p := ze0 b) (M := M) (hc.2 d hd) hL
          rw [<- ea, <- eb] at q
          simp [q]))]
        refine ⟨?_, rfl⟩
        show D.bl (ds.all (zfe (ze0 a) (ze0 b))) = D.bl (zbh 2 4 a && (zbh 1 2 b && (zfj (.tup ds) && ds.all (zfe (ze0 a) (ze0 b)))))
        rw [c1, c2, lb]; simp
      · rw [decide_eq_false l6, if_pos (by decide)]
        refine ⟨?_, rfl⟩
        have lb : zfj (.tup ds) = false := by simp [zfj]; omega
        simp [zgb, lb]
    · rw [decide_eq_false l1, if_neg (by simp)]
      refine ⟨_, rfl, ?_⟩
      rw [if_pos (by decide)]
      refine ⟨?_, rfl⟩
      have lb : zfj (.tup ds) = false := by simp [zfj]; omega
      simp [zgb, lb]
  | _ =>
    refine ⟨false, rfl, false, rfl, ?_⟩
    rw [if_pos (by decide)]
    exact ⟨by simp [zgb, zfj], rfl⟩
theorem zoj (n : Nat) (hd : Th k L d) (hL : L ≤ 100) : zay P (n + 7) 12 [d] M = .ok (.bl (zgb d)) M := by
  by_cases hn : zer 3 d = false
  · rw [zvj h n hd hn, zpb hn]
  · match d, hd, hn with
    | .tup [a, b, c], hd, _ => exact mach3 h n hd hL
    | .tup [], _, hn => exact absurd rfl hn
    | .tup [_], _, hn => exact absurd rfl hn
    | .tup [_, _], _, hn => exact absurd rfl hn
    | .tup (_ :: _ :: _ :: _ :: r), _, hn => exact absurd (by simp [zer]) hn
    | .non, _, hn => exact absurd rfl hn
    | .bl _, _, hn => exact absurd rfl hn
    | .int _, _, hn => exact absurd rfl hn
    | .str _, _, hn => exact absurd rfl hn
    | .lst _, _, hn => exact absurd rfl hn
    | .frz _, _, hn => exact absurd rfl hn
    | .cell _, _, hn => exact absurd rfl hn
    | .fn _, _, hn => exact absurd rfl hn
omit h in
theorem zdk {lo hi : Int} {n : Nat} (h1 : lo ≤ (n : Int)) (h2 : (n : Int) ≤ hi) : zbh lo hi (nD n) = true := by simp [zbh]; omega
omit h in
theorem zog {w : Nat} {t : List Nat} (ht : zhb w t) : zgl w (zf4 t) = true := by
  have e : (t.map nD).all (zbh 0 ((w : Int) - 1)) = true := by
    rw [List.all_eq_true]
    intro x hx
    obtain ⟨i, hi, rfl⟩ := List.mem_map.mp hx
    have := ht.2 i hi
    exact zdk (by omega) (by omega)
  show ((t.map nD).length == w && (t.map nD).all (zbh 0 ((w : Int) - 1))) = true
  rw [e, List.length_map, ht.1]; simp
omit h in
theorem ztu {w p : Nat} {d : zbu} (hd : zfn w p d) : zfe w p d.d = true := by
  cases d with
  | turn a t c =>
    obtain ⟨h1, h2, h3⟩ := hd
    unfold zfo at h3
    show zct w p "turn" _ = true
    rw [zk8]
    simp only [zfq]
    rw [zdk (by omega) (by omega), zog h2, zdk (by omega) (by omega)]; rfl
  | join a o t c =>
    obtain ⟨h1, h2, h3, h4⟩ := hd
    unfold zfo at h4
    show zct w p "join" _ = true
    rw [zk7]
    simp only [zeg]
    have e : zg9 w (.tup (t.map zf4)) = true := by
      have e : (t.map zf4).all (zgl w) = true := by
        rw [List.all_eq_true]
        intro x hx
        obtain ⟨i, hi, rfl⟩ := List.mem_map.mp hx
        exact zog (h3.2 i hi)
      show ((t.map zf4).length == w && (t.map zf4).all (zgl w)) = true
      rw [e, List.length_map, h3.1]; simp
    rw [zdk (by omega) (by omega), zdk (by omega) (by omega), e, zdk (by omega) (by omega)]; rfl
  | move a o c =>
    obtain ⟨h1, h2, h3⟩ := hd
    unfold zfo at h3
    show zct w p "move" _ = true
    rw [zk6]
    simp only [zfd]
    rw [zdk (by omega) (by omega), zdk (by omega) (by omega), zdk (by omega) (by omega)]; rfl
  | put a o c =>
    obtain ⟨h1, h2, h3⟩ := hd
    unfold zfo at h3
    show zct w p "put" _ = true
    rw [zk5]
    simp only [zgo]
    rw [zdk (by omega) (by omega), zdk (by omega) (by omega), zdk (by omega) (by omega)]; rfl
omit h in
theorem ztk {m : zf6} (hm : zp1 m) : zgb m.d = true := by
  have w2 := hm.w2
  have w4 := hm.w4
  have p1 := hm.p1
  have p2 := hm.p2
  have l1 := hm.d1
  have l6 := hm.d6
  have e : (m.deeds.map zbu.d).all (zfe m.words m.places) = true := by
    rw [List.all_eq_true]
    intro x hx
    obtain ⟨i, hi, rfl⟩ := List.mem_map.mp hx
    exact ztu (hm.ok i hi)
  have e2 : zfj (.tup (m.deeds.map zbu.d)) = true := by simp [zfj]; omega
  show (zbh 2 4 (nD m.words) && (zbh 1 2 (nD m.places) && (zfj (.tup (m.deeds.map zbu.d)) && (m.deeds.map zbu.d).all (zfe m.words m.places)))) = true
  rw [zdk (by omega) (by omega), zdk (by omega) (by omega), e, e2]; rfl
end
end LD
namespace LD
open PySem
structure HasW (P : Nat -> Option Df) : Prop where
  whole : P 67 = some ⟨1, 1, zff⟩
  is_in : P 68 = some ⟨3, 3, zfl⟩
  numbers : P 69 = some ⟨4, 4, zem⟩
  is_deed : P 70 = some ⟨3, 3, zbf⟩
  is_machine : P 71 = some ⟨1, 1, zds⟩
def zia : D -> Bool
  | .int _ => true
  | _ => false
theorem eq_empty {l : List D} {M : Mem} (hp : l.all (zav 63) = true) : zb4 .eq (.lst l) (.lst []) M = some l.isEmpty := by
  refine zmq hp rfl ?_
  cases l <;> rfl
theorem zlr (f : D -> Bool) : ∀ ds : List D, ((ds.filter fun d => !f d).map fun _ => D.int 1).isEmpty = ds.all f
  | [] => rfl
  | d :: r => by
    have ih := zlr f r
    cases q : f d with
    | true => simpa [q] using ih
    | false => simp [q]
theorem zmf {w : GW} {gc : GT} {ρ : Env} {M : Mem} {ds : List D} {k : D -> Mem -> Prop} (f : D -> Bool) (hw : okE (w ρ M) fun wk M' => M' = M /\ wk M = some ds) (hz : ds.length ≤ sz) (he : ∀ d ∈ ds, gc (some d :: ρ) M = .ok (!f d) M) (hk : k (.bl (ds.all f)) M) :
    okE (za4 .eq (zb7 false 1 (.one 0) w (gIf gc (zci (gC (.int 1))))) (zbw false zag) ρ M) k := by
  simp only [zn7, zpl, zn6, zc2, ze8]
  refine zbv hw fun wk M' ⟨e1, e2⟩ => ?_
  subst e1
  refine zm8 (fun d => !f d) (fun _ => .int 1) hz e2 (fun d hd => ⟨some d :: ρ, rfl, he d hd, fun _ => rfl⟩) ?_
  refine ⟨Nat.le_trans (by rw [List.length_map]; exact List.length_filter_le _ _) hz, za9 (by decide), _, eq_empty ?_, ?_⟩
  · rw [List.all_eq_true]
    intro x hx
    obtain ⟨_, _, rfl⟩ := List.mem_map.mp hx
    rfl
  · rw [zlr]; exact hk
section
variable {P : Nat -> Option Df} (h : HasW P) {M : Mem} {k L : Nat} {d : D}
include h
theorem zi6 (n : Nat) (hd : Th k L d) : zay P (n + 1) 67 [d] M = .ok (.bl (zia d)) M := by
  refine za1 (za5 h.whole rfl ?_)
  cases d with
  | fn j => cases k <;> exact hd.elim
  | _ => simp [zff, zbo, zia]
theorem zhj (n : Nat) (hd : Th k L d) (lo hi : Int) : zay P (n + 2) 68 [d, .int lo, .int hi] M = .ok (.bl (zbh lo hi d)) M := by
  refine za1 (za5 h.is_in rfl ?_)
  have e := zi6 h n (M := M) hd
  cases d with
  | fn j => cases k <;> exact hd.elim
  | int i =>
    simp [zfl, e, zia, zbh]
    by_cases q : lo ≤ i <;> simp [q] <;> omega
  | _ => simp [zfl, e, zia, zbh]
def zkm (many : Nat) (lo hi : Int) : D -> Bool
  | .tup ds => ds.length == many && ds.all (zbh lo hi)
  | _ => false
theorem zl3 (n : Nat) (hd : Th k L d) (hL : L ≤ 100) {many : Nat} (lo hi : Int) : zay P (n + 3) 69 [d, nD many, .int lo, .int hi] M = .ok (.bl (zkm many lo hi d)) M := by
  refine za1 (za5 h.numbers rfl ?_)
  cases d with
  | fn j => cases k <;> exact hd.elim
  | tup ds =>
    have ht := hd.tup
    simp only [zem, zbi, zi9, zdp, zcz, zof, zie, t_not, zq2, t_or, e_c, zcr, zpk, List.map_cons, List.map_nil, List.cons_append, List.nil_append, List.getElem?_cons_zero, List.getElem?_cons_succ, Option.getD_some, Option.some.injEq, exists_eq_left']
    refine ⟨true, rfl, true, rfl, ?_⟩
    rw [if_neg (by decide)]
    refine zn7.mpr (ziw.mpr (zcm.mpr (zcr.mpr ⟨_, rfl, zc2.mpr (zml.mpr (zcr.mpr ⟨_, rfl, _, c_nei, _, rfl, ?_⟩))⟩)))
    by_cases el : ds.length = many
    · have e0 : (!((ds.length : Int) == (many : Int))) = false := by simp [el]
      rw [e0, if_neg (by decide)]
      refine zmf (zbh lo hi) (ds := ds) (by simp; exact ⟨rfl, rfl⟩) (za9 (by omega)) (fun d hd => zao (by simp [zhj h n (ht.2 d hd)])) ?_
      exact ⟨by simp [zkm, el], rfl⟩
    · have e0 : (!((ds.length : Int) == (many : Int))) = true := by simp; omega
      rw [e0, if_pos (by decide)]
      exact ⟨by simp [zkm, el], rfl⟩
  | _ => simp [zem, zbo, zkm]
end
theorem za7 {t : GT} {A rest : GS} {ρ : Env} {M : Mem} {k : Fl -> Mem -> Prop} (ht : t ρ M = .ok false M) (h : okE (rest ρ M) k) : okE (zae (za2 t A zaj) rest ρ M) k := by
  simp only [zbi, zie]
  rw [ht]
  exact h
theorem zce {t : GT} {e : GE} {rest : GS} {ρ : Env} {M : Mem} {v : D} {k : Fl -> Mem -> Prop} (ht : t ρ M = .ok true M) (he : e ρ M = .ok v M) (h : k (.ret v) M) : okE (zae (za2 t (zae (zas e) zaj) zaj) rest ρ M) k := by
  simp only [zbi, zie, zdp]
  rw [ht]
  show okE (e ρ M) _
  rw [he]
  exact h
theorem zqu {e : GE} {ρ : Env} {M : Mem} {v : D} {k : Fl -> Mem -> Prop} (he : e ρ M = .ok v M) (h : k (.ret v) M) : okE (zae (zas e) zaj ρ M) k := by
  simp only [zbi, zdp]
  rw [he]
  exact h
abbrev zc7 : List D := [.str "turn", .str "join", .str "move", .str "put"]
theorem zti {k L : Nat} {x : D} {M : Mem} (hx : Th k L x) (hk : k ≤ 60) : zb4 .notin x (.tup zc7) M = some (!(zc7.any fun y => zbm y x)) := by
  have hp : zav 64 x = true := (hx.mono (n' := 64) (by omega) (Nat.le_refl L)).pure
  have e : zb4 .notin x (.tup zc7) M = ((zcx M (.tup zc7)).bind (inL (view M x))).map (!·) := by cases x <;> rfl
  rw [e, hx.view]
  show Option.map _ (inL x zc7) = _
  unfold inL
  rw [hp, show zc7.all (zav 63) = true by decide +kernel]
  rfl
section
variable {P : Nat -> Option Df} (h : HasW P) {M : Mem} {k L : Nat} {d : D}
include h
theorem zto (n : Nat) {w p : Nat} {xs : List D} (hl : xs.length ≠ 4 /\ xs.length ≠ 5) : zay P (n + 4) 70 [.tup xs, nD w, nD p] M = .ok (.bl false) M := by
  refine za1 (za5 h.is_deed rfl ?_)
  show okE (zbf _ [some (.tup xs), some (nD w), some (nD p)] M) _
  unfold zbf
  refine zce (zao ?_) rfl ⟨rfl, rfl⟩
  have e : zb4 .notin (.int xs.length) (.tup [.int 4, .int 5]) M = some true := by
    show ((inL (.int xs.length) [.int 4, .int 5]).map (!·)) = _
    have e1 : zbm (.int 4) (.int xs.length) = false := by simp [zbm]; omega
    have e2 : zbm (.int 5) (.int xs.length) = false := by simp [zbm]; omega
    show (some ([D.int 4, D.int 5].any fun y => zbm y (.int xs.length))).map (!·) = _
    simp [e1, e2]
  simp [zbo, e]
  exact za9 (by decide)
theorem zrq (n : Nat) {w p : Nat} {x : D} {xs : List D} (hx : Th k L x) (hk : k ≤ 60) (hl : xs.length = 3 \/ xs.length = 4) (hn : (zc7.any fun y => zbm y x) = false) : zay P (n + 4) 70 [.tup (x :: xs), nD w, nD p] M = .ok (.bl false) M := by
  refine za1 (za5 h.is_deed rfl ?_)
  show okE (zbf _ [some (.tup (x :: xs)), some (nD w), some (nD p)] M) _
  unfold zbf
  have e : zb4 .notin (.int (x :: xs).length) (.tup [.int 4, .int 5]) M = some false := by
    show ((inL (.int (x :: xs).length) [.int 4, .int 5]).map (!·)) = _
    show (some ([D.int 4, D.int 5].any fun y => zbm y (.int (x :: xs).length))).map (!·) = _
    rcases hl with e | e <;> simp [zbm, e]
  have e2 := zti (M := M) hx hk
  rw [hn] at e2
  refine za7 (zao ?_) (zce (zao ?_) rfl ⟨rfl, rfl⟩)
  · simp at e
    simp [zbo, e]
    exact za9 (by decide)
  · simp [ixN, e2]
    exact za9 (by decide)
theorem dl3 (n : Nat) {w p : Nat} {xs : List D} {a c : D} (hL1 : L + 1 ≤ 100) (i1 : zgp (.tup xs) (.int 1) M = some a) (il : zgp (.tup xs) (.int (-1)) M = some c) (ha : Th k L a) (hc : Th k L c) :
    (tOr (zb3 (zar (zam 69 (zay P (n + 3)) (zaa (za3 (zaa (zaw (zab 0) (gC (.int 1))) zag)) (zaa (gC (.int 1)) (zaa (gC (.int 0)) (zaa (zap false .sub (zab 2) (gC (.int 1))) zag))))))) (zb3 (zar (zam 68 (zay P (n + 3)) (zaa (zaw (zab 0) (zfb (gC (.int 1)))) (zaa (gC (.int 1)) (zaa (gC (.int 3)) zag)))))) : GT) [some (.tup xs), some (nD w), some (nD p)] M = .ok (!(zbh 0 ((p : Int) - 1) a && zbh 1 3 c)) M := by
  have q1 : zay P (n + 3) 69 [.tup [a], .int 1, .int 0, .int ((p : Int) - 1)] M = .ok (.bl (zkm 1 0 ((p : Int) - 1) (.tup [a]))) M := zl3 h n (d := .tup [a]) (k := k + 1) (L := L + 1) (many := 1) (show [a].length ≤ L + 1 /\ ∀ d ∈ [a], Th k (L + 1) d from ⟨by simp, fun d hd => by rw [List.mem_singleton.mp hd]; exact ha.mono (Nat.le_refl k) (Nat.le_succ L)⟩) hL1 0 _
  have q2 := zhj h (n + 1) (M := M) hc 1 3
  have z1 : 1 ≤ sz := za9 (by decide)
  refine zao ?_
  simp [-zyd, i1, il, q1, q2, z1, zkm]
  cases zbh 0 ((p : Int) - 1) a <;> cases zbh 1 3 c <;> simp
end
theorem zqn {M : Mem} : zb4 .notin (.str "turn") (.tup zc7) M = some false := by
  show (inL (.str "turn") zc7).map (!·) = _
  decide +kernel
theorem zqp {M : Mem} : zb4 .notin (.str "join") (.tup zc7) M = some false := by
  show (inL (.str "join") zc7).map (!·) = _
  decide +kernel
theorem zqo {M : Mem} : zb4 .notin (.str "move") (.tup zc7) M = some false := by
  show (inL (.str "move") zc7).map (!·) = _
  decide +kernel
theorem zth {M : Mem} : zb4 .notin (.str "put") (.tup zc7) M = some false := by
  show (inL (.str "put") zc7).map (!·) = _
  decide +kernel
theorem zjv {M : Mem} {x y : Bool} : zb4 .ne (.bl x) (.bl y) M = some (x != y) := by cases x <;> cases y <;> rfl
theorem zh4 {M : Mem} : zb4 .notin (.int 4) (.tup [.int 4, .int 5]) M = some false /\ zb4 .notin (.int 5) (.tup [.int 4, .int 5]) M = some false := ⟨rfl, rfl⟩
section
variable {P : Nat -> Option Df} (h : HasW P) {M : Mem} {k L : Nat} {d : D}
include h
theorem zrp (n : Nat) {w p : Nat} {a b c : D} (hL : L + 1 ≤ 100) (ha : Th k L a) (hb : Th k L b) (hc : Th k L c) : zay P (n + 4) 70 [.tup [.str "turn", a, b, c], nD w, nD p] M = .ok (.bl (zfq w p [a, b, c])) M := by
  refine za1 (za5 h.is_deed rfl ?_)
  show okE (zbf _ [some (.tup [.str "turn", a, b, c]), some (nD w), some (nD p)] M) _
  unfold zbf
  have z2 : 2 ≤ sz := za9 (by decide)
  have z4 : 4 ≤ sz := za9 (by decide)
  have ej := zck (x := "turn") (y := "join") (b := false) (by decide +kernel) M
  have et := zck (x := "turn") (y := "turn") (b := true) (by decide +kernel) M
  have ep := zck (x := "turn") (y := "put") (b := false) (by decide +kernel) M
  have em := zck (x := "turn") (y := "move") (b := false) (by decide +kernel) M
  refine za7 (zao (by simp [zbo, zh4.1, zh4.2, z2])) (za7 (zao (by simp [ixN, zqn, z4, ej, zjv])) ?_)
  have t3 := dl3 h n (w := w) (p := p) (M := M) (xs := [.str "turn", a, b, c]) hL rfl rfl ha hc
  cases A : (zbh 0 ((p : Int) - 1) a && zbh 1 3 c) with
  | false =>
    rw [A] at t3
    refine zce t3 rfl ⟨?_, rfl⟩
    simp only [zfq]
    rcases Bool.and_eq_false_iff.mp A with q | q <;> simp [q]
  | true =>
    rw [A] at t3
    simp only [Bool.and_eq_true] at A
    refine za7 t3 ?_
    have q := zl3 h n (M := M) (many := w) hb (by omega) 0 ((w : Int) - 1)
    refine zce (v := .bl (zgl w b)) (zao (by simp [ixN, et])) (za1 (by simp [ixN, q]; cases b <;> rfl)) ⟨?_, rfl⟩
    simp [zfq, A.1, A.2]
theorem ztm (n : Nat) {w p : Nat} {a b c : D} (hL : L + 1 ≤ 100) (ha : Th k L a) (hb : Th k L b) (hc : Th k L c) : zay P (n + 4) 70 [.tup [.str "put", a, b, c], nD w, nD p] M = .ok (.bl (zgo w p [a, b, c])) M := by
  refine za1 (za5 h.is_deed rfl ?_)
  show okE (zbf _ [some (.tup [.str "put", a, b, c]), some (nD w), some (nD p)] M) _
  unfold zbf
  have z2 : 2 ≤ sz := za9 (by decide)
  have z4 : 4 ≤ sz := za9 (by decide)
  have ej := zck (x := "put") (y := "join") (b := false) (by decide +kernel) M
  have et := zck (x := "put") (y := "turn") (b := false) (by decide +kernel) M
  have ep := zck (x := "put") (y := "put") (b := true) (by decide +kernel) M
  have em := zck (x := "put") (y := "move") (b := false) (by decide +kernel) M
  refine za7 (zao (by simp [zbo, zh4.1, zh4.2, z2])) (za7 (zao (by simp [ixN, zth, z4, ej, zjv])) ?_)
  have t3 := dl3 h n (w := w) (p := p) (M := M) (xs := [.str "put", a, b, c]) hL rfl rfl ha hc
  cases A : (zbh 0 ((p : Int) - 1) a && zbh 1 3 c) with
  | false =>
    rw [A] at t3
    refine zce t3 rfl ⟨?_, rfl⟩
    simp only [zgo]
    rcases Bool.and_eq_false_iff.mp A with q | q <;> simp [q]
  | true =>
    rw [A] at t3
    simp only [Bool.and_eq_true] at A
    refine za7 t3 ?_
    have q := zhj h (n + 1) (M := M) hb 0 ((w : Int) - 1)
    refine za7 (zao (by simp [ixN, et])) (zce (v := .bl (zbh 0 ((w : Int) - 1) b)) (zao (by simp [ixN, ep])) (za1 (by simp [ixN, q])) ⟨?_, rfl⟩)
    simp [zgo, A.1, A.2]
theorem zrr (n : Nat) {w p : Nat} {a b c : D} (hL : L + 1 ≤ 100) (ha : Th k L a) (hb : Th k L b) (hc : Th k L c) : zay P (n + 4) 70 [.tup [.str "move", a, b, c], nD w, nD p] M = .ok (.bl (zfd w p [a, b, c])) M := by
  refine za1 (za5 h.is_deed rfl ?_)
  show okE (zbf _ [some (.tup [.str "move", a, b, c]), some (nD w), some (nD p)] M) _
  unfold zbf
  have z2 : 2 ≤ sz := za9 (by decide)
  have z4 : 4 ≤ sz := za9 (by decide)
  have ej := zck (x := "move") (y := "join") (b := false) (by decide +kernel) M
  have et := zck (x := "move") (y := "turn") (b := false) (by decide +kernel) M
  have ep := zck (x := "move") (y := "put") (b := false) (by decide +kernel) M
  have em := zck (x := "move") (y := "move") (b := true) (by decide +kernel) M
  refine za7 (zao (by simp [zbo, zh4.1, zh4.2, z2])) (za7 (zao (by simp [ixN, zqo, z4, ej, zjv])) ?_)
  have t3 := dl3 h n (w := w) (p := p) (M := M) (xs := [.str "move", a, b, c]) hL rfl rfl ha hc
  cases A : (zbh 0 ((p : Int) - 1) a && zbh 1 3 c) with
  | false =>
    rw [A] at t3
    refine zce t3 rfl ⟨?_, rfl⟩
    simp only [zfd]
    rcases Bool.and_eq_false_iff.mp A with q | q <;> simp [q]
  | true =>
    rw [A] at t3
    simp only [Bool.and_eq_true] at A
    refine za7 t3 ?_
    have q := zhj h (n + 1) (M := M) hb 0 ((p : Int) - 1)
    refine za7 (zao (by simp [ixN, et])) (za7 (zao (by simp [ixN, ep])) ?_)
    cases B : zbh 0 ((p : Int) - 1) b with
    | false =>
      rw [B] at q
      exact zce (zao (by simp [ixN, q])) rfl ⟨by simp [zfd, B], rfl⟩
    | true =>
      rw [B] at q
      refine za7 (zao (by simp [ixN, q])) (zce (zao (by simp [ixN, em])) rfl ⟨?_, rfl⟩)
      simp [zfd, A.1, A.2, B]
theorem zrs (n : Nat) {w p : Nat} {a b e c : D} (hL : L + 1 ≤ 100) (ha : Th k L a) (hb : Th k L b) (he : Th k L e) (hc : Th k L c) : zay P (n + 4) 70 [.tup [.str "join", a, b, e, c], nD w, nD p] M = .ok (.bl (zeg w p [a, b, e, c])) M := by
  refine za1 (za5 h.is_deed rfl ?_)
  show okE (zbf _ [some (.tup [.str "join", a, b, e, c]), some (nD w), some (nD p)] M) _
  unfold zbf
  have z2 : 2 ≤ sz := za9 (by decide)
  have z4 : 4 ≤ sz := za9 (by decide)
  have ej := zck (x := "join") (y := "join") (b := true) (by decide +kernel) M
  have et := zck (x := "join") (y := "turn") (b := false) (by decide +kernel) M
  have ep := zck (x := "join") (y := "put") (b := false) (by decide +kernel) M
  have em := zck (x := "join") (y := "move") (b := false) (by decide +kernel) M
  refine za7 (zao (by simp [zbo, zh4.1, zh4.2, z2])) (za7 (zao (by simp [ixN, zqp, z4, ej, zjv])) ?_)
  have t3 := dl3 h n (w := w) (p := p) (M := M) (xs := [.str "join", a, b, e, c]) hL rfl rfl ha hc
  cases A : (zbh 0 ((p : Int) - 1) a && zbh 1 3 c) with
  | false =>
    rw [A] at t3
    refine zce t3 rfl ⟨?_, rfl⟩
    simp only [zeg]
    rcases Bool.and_eq_false_iff.mp A with q | q <;> simp [q]
  | true =>
    rw [A] at t3
    simp only [Bool.and_eq_true] at A
    refine za7 t3 ?_
    have q := zhj h (n + 1) (M := M) hb 0 ((p : Int) - 1)
    refine za7 (zao (by simp [ixN, et])) (za7 (zao (by simp [ixN, ep])) ?_)
    cases B : zbh 0 ((p : Int) - 1) b with
    | false =>
      rw [B] at q
      exact zce (zao (by simp [ixN, q])) rfl ⟨by simp [zeg, B], rfl⟩
    | true =>
      rw [B] at q
      refine za7 (zao (by simp [ixN, q])) (za7 (zao (by simp [ixN, em])) ?_)
      have e0 : zeg w p [a, b, e, c] = zg9 w e := by simp [zeg, A.1, A.2, B]
      rw [e0]
      cases e with
      | fn j => exact absurd he (by cases k <;> exact id)
      | tup ds =>
        have ht := he.tup
        by_cases el : ds.length = w
        · refine za7 (zao (by simp [ixN, zbo, el])) ?_
          simp only [zbi, zdp]
          refine zmf (zgl w) (ds := ds) (by simp [ixN]; exact ⟨rfl, rfl⟩) (za9 (by omega)) (fun d hd => zao (by
            have q := zl3 h n (M := M) (many := w) (ht.2 d hd) (by omega) 0 ((w : Int) - 1)
            have : zkm w 0 ((w : Int) - 1) d = zgl w d := by cases d <;> rfl
            rw [this] at q
            simp [q])) ?_
          exact ⟨by simp [zg9, el], rfl⟩
        · have : ¬ ((ds.length : Int) = (w : Int)) := by omega
          exact zce (zao (by simp [ixN, zbo, this])) rfl ⟨by simp [zg9, el], rfl⟩
      | _ => exact zce (zao (by simp [ixN, zbo])) rfl ⟨rfl, rfl⟩
omit h in
theorem zs4 {w p : Nat} {s : Str} {ds : List D} (hl : ds.length ≠ 3 /\ ds.length ≠ 4) : zct w p s ds = false := by
  have t : zfq w p ds = false := by
    match ds, hl with
    | [], _ => rfl
    | [_], _ => rfl
    | [_, _], _ => rfl
    | [_, _, _], hl => simp at hl
    | _ :: _ :: _ :: _ :: _, _ => rfl
  have j : zeg w p ds = false := by
    match ds, hl with
    | [], _ => rfl
    | [_], _ => rfl
    | [_, _], _ => rfl
    | [_, _, _], _ => rfl
    | [_, _, _, _], hl => simp at hl
    | _ :: _ :: _ :: _ :: _ :: _, _ => rfl
  have m : zfd w p ds = false := by
    match ds, hl with
    | [], _ => rfl
    | [_], _ => rfl
    | [_, _], _ => rfl
    | [_, _, _], hl => simp at hl
    | _ :: _ :: _ :: _ :: _, _ => rfl
  have u : zgo w p ds = false := by
    match ds, hl with
    | [], _ => rfl
    | [_], _ => rfl
    | [_, _], _ => rfl
    | [_, _, _], hl => simp at hl
    | _ :: _ :: _ :: _ :: _, _ => rfl
  unfold zct
  rw [t, j, m, u]
  split <;> first | rfl | (split <;> first | rfl | (split <;> first | rfl | (split <;> rfl)))
theorem zhu (n : Nat) {w p : Nat} {s : Str} {xs : List D} {bj : Bool} (hs : zb4 .notin (.str s) (.tup zc7) M = some false) (ej : zb4 .eq (.str s) (.str "join") M = some bj) (hl : xs.length = 3 /\ bj = true \/ xs.length = 4 /\ bj = false) : zay P (n + 4) 70 [.tup (.str s :: xs), nD w, nD p] M = .ok (.bl false) M := by
  refine za1 (za5 h.is_deed rfl ?_)
  show okE (zbf _ [some (.tup (.str s :: xs)), some (nD w), some (nD p)] M) _
  unfold zbf
  have z2 : 2 ≤ sz := za9 (by decide)
  have z4 : 4 ≤ sz := za9 (by decide)
  rcases hl with ⟨e, rfl⟩ | ⟨e, rfl⟩
  · refine za7 (zao (by simp [zbo, e, zh4.1, z2])) (zce (zao ?_) rfl ⟨rfl, rfl⟩)
    simp [ixN, hs, z4, ej, zjv, e]
  · refine za7 (zao (by simp [zbo, e, zh4.2, z2])) (zce (zao ?_) rfl ⟨rfl, rfl⟩)
    simp [ixN, hs, z4, ej, zjv, e]
theorem ztn (n : Nat) {w p : Nat} (hi : zbo .tuple d = some false) : zay P (n + 4) 70 [d, nD w, nD p] M = .ok (.bl false) M := by
  refine za1 (za5 h.is_deed rfl ?_)
  show okE (zbf _ [some d, some (nD w), some (nD p)] M) _
  unfold zbf
  exact zce (zao (by simp [hi])) rfl ⟨rfl, rfl⟩
theorem zso (n : Nat) {w p : Nat} (hd : Th k L d) (hk : k ≤ 60) (hL : L + 1 ≤ 100) : zay P (n + 4) 70 [d, nD w, nD p] M = .ok (.bl (zfe w p d)) M := by
  cases d with
  | fn j => exact absurd hd (by cases k <;> exact id)
  | tup xs =>
    have ht := hd.tup
    by_cases hl : xs.length ≠ 4 /\ xs.length ≠ 5
    · rw [zto h n hl]
      cases xs with
      | nil => rfl
      | cons x ds =>
        simp at hl
        cases x with
        | str s => show _ = Res.ok (D.bl (zct w p s ds)) M; rw [zs4 ⟨by omega, by omega⟩]
        | _ => rfl
    · have hl : xs.length = 4 \/ xs.length = 5 := by omega
      cases xs with
      | nil => simp at hl
      | cons x ds =>
        have hx := ht.2 x List.mem_cons_self
        have hds : ∀ d ∈ ds, Th k L d := fun d hd => ht.2 d (List.mem_cons_of_mem _ hd)
        have hl : ds.length = 3 \/ ds.length = 4 := by simp at hl; omega
        by_cases hn : (zc7.any fun y => zbm y x) = false
        · rw [zrq h n hx hk hl hn]
          cases x with
          | str s =>
            show _ = Res.ok (D.bl (zct w p s ds)) M
            have q : ∀ z : Str, D.str z ∈ zc7 -> ¬ s = z := fun z hz e => by
              subst e
              rw [List.any_eq_false] at hn
              exact hn _ hz (by simp [zbm])
            rw [zs5 (q _ (by simp)) (q _ (by simp)) (q _ (by simp)) (q _ (by simp))]
          | _ => rfl
        · have hn : (zc7.any fun y => zbm y x) = true := (Bool.not_eq_false _).mp hn
          obtain ⟨z, hz, e⟩ := List.any_eq_true.mp hn
          have hx : ∃ s : Str, x = .str s /\ D.str s ∈ zc7 := by
            simp only [zc7, List.mem_cons, List.not_mem_nil, or_false] at hz
            cases x <;> rcases hz with rfl | rfl | rfl | rfl <;> first | (simp [zbm] at e; subst e; exact ⟨_, rfl, by simp⟩) | simp [zbm] at e
          obtain ⟨s, rfl, hs⟩ := hx
          show _ = Res.ok (D.bl (zct w p s ds)) M
          simp only [zc7, List.mem_cons, List.not_mem_nil, or_false, D.str.injEq] at hs
          match ds, hds, hl with
          | [a, b, c], hds, _ =>
            simp only [List.mem_cons, List.not_mem_nil, or_false, forall_eq_or_imp, forall_eq] at hds
            rcases hs with rfl | rfl | rfl | rfl
            · rw [zk8]; exact zrp h n hL hds.1 hds.2.1 hds.2.2
            · rw [zk7]; exact zhu h n zqp (zck (by decide +kernel) M) (.inl ⟨rfl, rfl⟩)
            · rw [zk6]; exact zrr h n hL hds.1 hds.2.1 hds.2.2
            · rw [zk5]; exact ztm h n hL hds.1 hds.2.1 hds.2.2
          | [a, b, e, c], hds, _ =>
            simp only [List.mem_cons, List.not_mem_nil, or_false, forall_eq_or_imp, forall_eq] at hds
            rcases hs with rfl | rfl | rfl | rfl
            · rw [zk8]; exact zhu h n zqn (zck (by decide +kernel) M) (.inr ⟨rfl, rfl⟩)
            · rw [zk7]; exact zrs h n hL hds.1 hds.2.1 hds.2.2.1 hds.2.2.2
            · rw [zk6]; exact zhu h n zqo (zck (by decide +kernel) M) (.inr ⟨rfl, rfl⟩)
            · rw [zk5]; exact zhu h n zth (zck (by decide +kernel) M) (.inr ⟨rfl, rfl⟩)
          | [], _, hl => simp at hl
          | [_], _, hl => simp at hl
          | [_, _], _, hl => simp at hl
          | _ :: _ :: _ :: _ :: _ :: _, _, hl => simp at hl
  | _ => exact ztn h n rfl
theorem zsn (n : Nat) (hd : Th k L d) (hk : k ≤ 60) (hL : L + 1 ≤ 100) : zay P (n + 5) 71 [d] M = .ok (.bl (zgb d)) M := by
  refine za1 (za5 h.is_machine rfl ?_)
  show okE (zds _ [some d] M) _
  unfold zds
  by_cases hn : zer 3 d = false
  · rw [zpb hn]
    cases d with
    | fn j => exact absurd hd (by cases k <;> exact id)
    | tup xs =>
      have : ¬ ((xs.length : Int) = 3) := by simp [zer] at hn; omega
      exact zce (zao (by simp [zbo, this])) rfl ⟨rfl, rfl⟩
    | _ => exact zce (zao (by simp [zbo])) rfl ⟨rfl, rfl⟩
  · match d, hd, hn with
    | .tup [a, b, c], hd, _ =>
      have ht := hd.tup.2
      simp only [List.mem_cons, List.not_mem_nil, or_false, forall_eq_or_imp, forall_eq] at ht
      have b1 := zhj h (n + 2) (M := M) ht.1 2 4
      have b2 := zhj h (n + 2) (M := M) ht.2.1 1 2
      show okE _ (zh6 fun x M' => x = .bl (zbh 2 4 a && (zbh 1 2 b && (zfj c && (zpg c).all (zfe (ze0 a) (ze0 b))))) /\ M' = M)
      cases c1 : zbh 2 4 a with
      | false =>
        rw [c1] at b1
        exact zce (zao (by simp [zbo, ixN, b1])) rfl ⟨rfl, rfl⟩
      | true =>
        rw [c1] at b1
        refine za7 (zao (by simp [zbo, ixN, b1])) ?_
        cases c2 : zbh 1 2 b with
        | false =>
          rw [c2] at b2
          exact zce (zao (by simp [ixN, b2])) rfl ⟨rfl, rfl⟩
        | true =>
          rw [c2] at b2
          obtain ⟨ea, _, _⟩ := zj3 c1 (by decide)
          obtain ⟨eb, _, _⟩ := zj3 c2 (by decide)
          cases c with
          | fn j => exact absurd ht.2.2 (by cases k <;> exact id)
          | tup ds =>
            have hc := ht.2.2.tup
            cases lb : zfj (.tup ds) with
            | false =>
              refine zce (zao ?_) rfl ⟨rfl, rfl⟩
              simp [zfj] at lb
              simp [ixN, b2, zbo]
              omega
            | true =>
              refine za7 (zao ?_) ?_
              · simp [zfj] at lb
                simp [ixN, b2, zbo]
                omega
              · simp only [zbi, zdp]
                refine zmf (zfe (ze0 a) (ze0 b)) (ds := ds) (by simp [ixN]; exact ⟨rfl, rfl⟩) (za9 (by omega)) (fun d hd => zao (by
                  have q := zso h n (w := ze0 a) (p := ze0 b) (M := M) (hc.2 d hd) hk hL
                  rw [<- ea, <- eb] at q
                  simp [ixN, q])) ?_
                exact ⟨by simp [zpg], rfl⟩
          | _ => exact zce (zao (by simp [ixN, b2, zbo])) rfl ⟨by simp [zfj], rfl⟩
    | .tup [], _, hn => exact absurd rfl hn
    | .tup [_], _, hn => exact absurd rfl hn
    | .tup [_, _], _, hn => exact absurd rfl hn
    | .tup (_ :: _ :: _ :: _ :: r), _, hn => exact absurd (by simp [zer]) hn
    | .non, _, hn => exact absurd rfl hn
    | .bl _, _, hn => exact absurd rfl hn
    | .int _, _, hn => exact absurd rfl hn
    | .str _, _, hn => exact absurd rfl hn
    | .lst _, _, hn => exact absurd rfl hn
    | .frz _, _, hn => exact absurd rfl hn
    | .cell _, _, hn => exact absurd rfl hn
    | .fn _, _, hn => exact absurd rfl hn
end
end LD
namespace LD
open PySem
structure HasT (P : Nat -> Option Df) : Prop where
  but : P 64 = some ⟨2, 4, zed⟩
  any : P 65 = some ⟨1, 1, zee⟩
  signed : P 66 = some ⟨2, 3, ze6⟩
  bent : P 72 = some ⟨3, 9, zh8⟩
section
variable {ρ : Env} {M : Mem} {a b lo hi : GE} {k : D -> Mem -> Prop} {kw : Walk -> Mem -> Prop}
@[simp] theorem w_seqS : okE (zlq a ρ M) kw ↔ okE (a ρ M) fun x M => ∃ z, x = .str z /\ kw (fun _ => some (signs z)) M := by
  simp only [zlq, zbn]; refine iff_of_eq ?_; congr 1; funext x M; cases x <;> simp
@[simp] theorem e_notT : okE (zjy a b ρ M) k ↔ okE (a ρ M) fun x M => okE (b ρ M) fun y M => ∃ v, x = .bl v /\ y = .bl true /\ k (.bl (!v)) M := by
  simp only [zjy, zbn]; refine iff_of_eq ?_; congr 1; funext x M; congr 1; funext y M
  cases x <;> cases y <;> simp
  rename_i v w; cases w <;> simp
theorem e_slcS {hl hh : Bool} : okE (zjx hl hh a lo hi ρ M) k ↔ okE (a ρ M) fun x M => okE (lo ρ M) fun l M => okE (hi ρ M) fun h M => zcu hl l = true /\ zcu hh h = true /\ ∃ z i j, x = .str z /\ z.cps.size ≤ sz /\ sIx z.cps.size 0 l = some i /\ sIx z.cps.size z.cps.size h = some j /\ k (.str (zgq z i j)) M := by
  simp only [zjx, zbn]
  refine iff_of_eq ?_
  congr 1; funext x M; congr 1; funext l M; congr 1; funext h M
  cases zcu hl l <;> cases zcu hh h <;> simp
  cases x <;> simp
  rename_i z
  by_cases hz : z.cps.size ≤ sz
  · simp [hz]
    cases sIx z.cps.size 0 l <;> cases sIx z.cps.size z.cps.size h <;> simp
  · simp [hz]
end
def zf1 (L : Nat) (z : Str) : Prop := z.cps.size ≤ L /\ z.cps.all (· < 0x110000) = true
theorem zf1.th {n L : Nat} {z : Str} (h : zf1 L z) : Th n L (.str z) := by cases n <;> exact h
theorem ztx {L : Nat} {z : Str} {i j : Nat} (h : zf1 L z) : zf1 (j - i) (zgq z i j) /\ (zgq z i j).cps.size ≤ z.cps.size - i := by
  refine ⟨⟨?_, ?_⟩, ?_⟩
  · simp [zgq, cut]; omega
  · have h2 := h.2
    rw [<- Array.all_toList, List.all_eq_true] at h2
    simp only [zgq]
    rw [List.all_toArray, List.all_eq_true]
    intro x hx
    exact h2 x (List.mem_of_mem_drop (List.mem_of_mem_take hx))
  · simp [zgq, cut]; omega
theorem add_str {m : Bool} {x y : Str} {M : Mem} {k : D -> Mem -> Prop} (h : x.cps.size + y.cps.size ≤ sz) : okE (ze2 m .add (.str x) (.str y) M) k ↔ k (.str ⟨x.cps ++ y.cps⟩) M := by simp [ze2, h]
abbrev sgA : Str := " !\"#$&'()*+,-./0123456789:;<=>?@ABCDEFGHIJKLMNOPQRSTUVWXYZ[\\]^_`"
abbrev sgB : Str := "abcdefghijklmnopqrstuvwxyz{|}~\t\n"
def allSigns : Str := ⟨sgA.cps ++ sgB.cps⟩
theorem zy0 {M : Mem} {k : D -> Mem -> Prop} : okE (ze2 false .add (.str sgA) (.str sgB) M) k ↔ k (.str allSigns) M := add_str (Nat.le_trans (by decide +kernel) (za9 (n := 200) (by decide)))
theorem zgw : (0 < (signs allSigns).length /\ (signs allSigns).length ≤ 200) /\ allSigns.cps.size ≤ 200 /\ ((signs allSigns).all fun d => match d with | .str z => !zhh z "" && z.cps.size == 1 && z.cps.all (· < 0x110000) | _ => false) = true := by decide +kernel
theorem sign_is {d : D} (h : d ∈ signs allSigns) : ∃ z : Str, d = .str z /\ zhh z "" = false /\ zf1 1 z := by
  have q := List.all_eq_true.mp zgw.2.2 d h
  cases d with
  | str z =>
    simp only [Bool.and_eq_true, Bool.not_eq_true', beq_iff_eq] at q
    exact ⟨z, rfl, q.1.1, by rw [q.1.2]; exact Nat.le_refl 1, q.2⟩
  | _ => cases q
section
variable {P : Nat -> Option Df} (hp_ : zjr P) (ht_ : HasT P) {M : Mem}
include hp_ ht_
theorem sp_any (n : Nat) {p B : Nat} (hp : zba M p B) (hB : B ≤ 900000) : okE (zay P (n + 4) 65 [.cell p] M) fun d M' => ∃ z : Str, d = .str z /\ zf1 1 z /\ zba M' p (B + 1) /\ zbx p M M' := by
  refine za5 ht_.any rfl ?_
  show okE (zee _ [some (.cell p)] M) _
  simp only [zee, zbi, zdp, zdj, zcm, zc2, zcr, e_c, List.getElem?_cons_zero, Option.getD_some, Option.some.injEq, exists_eq_left']
  refine za5 ht_.but rfl ?_
  show okE (zed _ [some (.cell p), some (.str ""), none, none] M) _
  simp only [zed, zbi, zi9, zdq, zcz, zdp, e_c, zhx, zcr, List.getElem?_cons_zero, List.getElem?_cons_succ, Option.getD_some, Option.some.injEq, exists_eq_left', List.set_cons_zero, List.set_cons_succ]
  refine zy0.mpr ?_
  simp only [zpl, w_seqS, zcr, List.getElem?_cons_zero, List.getElem?_cons_succ, Option.getD_some, Option.some.injEq, exists_eq_left', D.str.injEq]
  refine zm8 (fun _ => true) (fun d => d) (ds := signs allSigns) (za9 (by have := zgw.1.2; omega)) rfl (fun d hd => ?_) ?_
  · obtain ⟨z, rfl, hz, _⟩ := sign_is hd
    refine ⟨_, rfl, zao ?_, fun _ => rfl⟩
    simp
    show some (!zhh z "") = _
    rw [hz]; rfl
  have ef : (List.filter (fun _ => true) (signs allSigns)).map (fun d => d) = signs allSigns := by simp
  rw [ef]
  refine ze8.mpr ⟨za9 (by have := zgw.1.2; omega), ?_⟩
  simp only [zcz, zbi, zdp, zls, zdj, zcm, zc2, ziw, zcr, List.getElem?_cons_zero, List.getElem?_cons_succ, Option.getD_some, Option.some.injEq, exists_eq_left', List.set_cons_zero, List.set_cons_succ, zx9]
  refine tk hp_ n hp (by omega) zgw.1.1 (by have := zgw.1.2; omega) fun v M' hv q kk => ?_
  obtain ⟨z, e, _, hz⟩ := sign_is (List.getElem_mem hv)
  refine ⟨.str z, ?_, z, rfl, hz, q, kk⟩
  show (ixN (signs allSigns).length (v : Int)).bind (fun j => (signs allSigns)[j]?) = _
  rw [zgz hv]
  simp [hv, e]
omit hp_ ht_ in
theorem zt1 {A B : Nat} {x y : Str} (hx : zf1 A x) (hy : zf1 B y) : zf1 (x.cps.size + y.cps.size) ⟨x.cps ++ y.cps⟩ := by
  refine ⟨by simp, ?_⟩
  have h1 := hx.2
  have h2 := hy.2
  simp only [Array.all_append, h1, h2, Bool.and_self]
theorem zsl (n : Nat) {p B L : Nat} {z : Str} (hz : zf1 L z) (hL : L ≤ 100) (hp : zba M p B) (hB : B ≤ 800000) : okE (zay P (n + 5) 66 [.cell p, .str z] M) fun d M' => ∃ z' : Str, d = .str z' /\ zf1 (L + 1) z' /\ zba M' p (B + 3) /\ zbx p M M' := by
  refine za5 ht_.signed rfl ?_
  show okE (ze6 _ [some (.cell p), some (.str z), none] M) _
  have zl := hz.1
  have zsz : z.cps.size ≤ sz := za9 (by omega)
  simp only [ze6, zbi, zi9, zdq, zcz, zdp, zdj, zcm, zc2, e_c, zhx, zcr, ziw, e_slcS, List.getElem?_cons_zero, List.getElem?_cons_succ, Option.getD_some, Option.some.injEq, exists_eq_left', List.set_cons_zero, List.set_cons_succ]
  have el : ∀ {k : D -> Mem -> Prop}, k (.int z.cps.size) M -> okE (zfk .len [.str z] M) k := fun hk => by
    show okE (if z.cps.size ≤ sz then Res.ok (D.int z.cps.size) M else .bad) _
    rw [if_pos zsz]; exact hk
  refine el ?_
  rw [zgf]
  rw [show ((z.cps.size : Int) + 1) = ((z.cps.size + 1 : Nat) : Int) by omega]
  refine tk hp_ (n + 2) hp (by omega) (by omega) (by omega) fun at_ M1 hat q1 k1 => ?_
  refine ⟨rfl, rfl, z, 0, at_, rfl, zsz, rfl, ?_, ?_⟩
  · show some (if (at_ : Int) < 0 then _ else min (at_ : Int).toNat z.cps.size) = _
    rw [if_neg (by omega)]
    congr 1
    simp; omega
  refine zbv (sp_any hp_ ht_ (M := M1) (B := B + 1) (p := p) n q1 (by omega)) fun d M2 ⟨y, ed, hy, q2, k2⟩ => ?_
  subst ed
  have c1 := ztx (i := 0) (j := at_) hz
  have hs1 := zt1 c1.1 hy
  have s1 := c1.1.1
  have s2 := hy.1
  have w1 : (zgq z 0 at_).cps.size + y.cps.size ≤ sz := za9 (by omega)
  refine (add_str w1).mpr ?_
  refine tk hp_ (n + 2) (many := 2) q2 (by omega) (by decide) (by decide) fun v M3 hv q3 k3 => ?_
  rw [zgf]
  rw [show ((at_ : Int) + (v : Int)) = ((at_ + v : Nat) : Int) by omega]
  refine ⟨rfl, rfl, z, min (at_ + v) z.cps.size, z.cps.size, rfl, zsz, ?_, rfl, ?_⟩
  · show some (if ((at_ + v : Nat) : Int) < 0 then _ else min ((at_ + v : Nat) : Int).toNat z.cps.size) = _
    rw [if_neg (by omega)]
    congr 1
  have c2 := ztx (i := min (at_ + v) z.cps.size) (j := z.cps.size) hz
  have hs2 := zt1 hs1 c2.1
  have s3 := c2.2
  have s4 := hs1.1
  simp only at s4
  have w2 : ((zgq z 0 at_).cps ++ y.cps).size + (zgq z (min (at_ + v) z.cps.size) z.cps.size).cps.size ≤ sz := za9 (by simp only [Array.size_append] at s4 ⊢; omega)
  refine (add_str w2).mpr ?_
  refine ⟨_, rfl, ⟨?_, hs2.2⟩, q3, (k1.trans k2).trans k3⟩
  have := hs2.1
  simp only [Array.size_append] at this ⊢
  omega
end
def zfw : List D := [.non, .bl true, .bl false, .str "", .str "turn", .str "join", .str "move", .str "put", .str "Turn", .tup [], .lst [], .int (10 ^ 20), .int (-1), .int 0, .int 1, .int 4, .tup [.int 0], .lst [.int 0], .str "0", .int 7]
theorem ztg {x : D} (h : x ∈ zfw) : Th 1 4 x := by
  have st : ∀ z : Str, (z.cps.size ≤ 4 && z.cps.all (· < 0x110000)) = true -> Th 1 4 (.str z) := fun z hz => by
    simp only [Bool.and_eq_true, decide_eq_true_eq] at hz
    exact hz
  simp only [zfw, List.mem_cons, List.not_mem_nil, or_false] at h
  rcases h with rfl | rfl | rfl | rfl | rfl | rfl | rfl | rfl | rfl | rfl | rfl | rfl | rfl | rfl | rfl | rfl | rfl | rfl | rfl | rfl
  all_goals first
    | trivial
    | exact st _ (by decide +kernel)
    | exact ⟨by decide, fun d hd => absurd hd List.not_mem_nil⟩
    | exact ⟨by decide, fun d hd => by rw [List.mem_singleton.mp hd]; trivial⟩
theorem zqi {lo hi : D} {hl hh : Bool} {xs : List D} {M : Mem} {k : D -> Mem -> Prop} (h1 : zcu hl lo = true) (h2 : zcu hh hi = true) (hk : ∀ i j, k (.tup (cut xs i j)) M) : okE (zgn false (.tup xs) lo hi M) k := by
  have q : ∀ {n d : Nat} {b : Bool} {x : D}, zcu b x = true -> ∃ i, sIx n d x = some i := fun {n d b x} h => by
    cases b <;> cases x <;> first | exact ⟨_, rfl⟩ | cases h
  obtain ⟨i, e1⟩ := q (n := xs.length) (d := 0) h1
  obtain ⟨j, e2⟩ := q (n := xs.length) (d := xs.length) h2
  show okE (match sIx xs.length 0 lo, sIx xs.length xs.length hi with | some l, some h => Res.ok (D.tup (cut xs l h)) M | _, _ => .bad) k
  rw [e1, e2]
  exact hk i j
theorem zhd {xs : List D} {i j : Nat} : (cut xs i j).length ≤ xs.length /\ (cut xs i j).length ≤ j /\ ∀ d ∈ cut xs i j, d ∈ xs := by
  refine ⟨?_, ?_, fun d hd => List.mem_of_mem_drop (List.mem_of_mem_take hd)⟩
  · unfold cut; rw [List.length_take, List.length_drop]; omega
  · unfold cut; rw [List.length_take]; omega
theorem slc_1 {xs : List D} {M : Mem} {k : D -> Mem -> Prop} (hk : ∀ ys : List D, ys.length ≤ 1 -> (∀ d ∈ ys, d ∈ xs) -> k (.tup ys) M) : okE (zgn false (.tup xs) .non (.int 1) M) k := by
  show okE (Res.ok (D.tup (cut xs 0 (min 1 xs.length))) M) k
  exact hk _ (Nat.le_trans zhd.2.1 (by omega)) zhd.2.2
theorem slt_to {xs : List D} {a : Nat} {M : Mem} {k : D -> Mem -> Prop} (ha : a < xs.length) (hk : k (.tup (xs.take a)) M) : okE (zgn false (.tup xs) .non (nD a) M) k := by
  show okE (Res.ok (D.tup (cut xs 0 (if (a : Int) < 0 then _ else min (a : Int).toNat xs.length))) M) k
  rw [if_neg (by omega)]
  have : cut xs 0 (min (a : Int).toNat xs.length) = xs.take a := by
    unfold cut
    rw [show min (a : Int).toNat xs.length - 0 = a by simp; omega, List.drop_zero]
  rw [this]; exact hk
theorem zuv {xs : List D} {a : Nat} {M : Mem} {k : D -> Mem -> Prop} (ha : a < xs.length) (hk : k (.tup (xs.drop (a + 1))) M) : okE (zgn false (.tup xs) (.int ((a : Int) + 1)) .non M) k := by
  show okE (Res.ok (D.tup (cut xs (if (a : Int) + 1 < 0 then _ else min ((a : Int) + 1).toNat xs.length) xs.length)) M) k
  rw [if_neg (by omega)]
  have : cut xs (min ((a : Int) + 1).toNat xs.length) xs.length = xs.drop (a + 1) := by
    unfold cut
    rw [show min ((a : Int) + 1).toNat xs.length = a + 1 by omega, List.take_of_length_le (by simp)]
  rw [this]; exact hk
theorem Th.tup_of {k L : Nat} {xs : List D} (hl : xs.length ≤ L) (h : ∀ d ∈ xs, Th k L d) : Th (k + 1) L (.tup xs) := ⟨hl, h⟩
theorem Th.lst_of {k L : Nat} {xs : List D} (hl : xs.length ≤ L) (h : ∀ d ∈ xs, Th k L d) : Th (k + 1) L (.lst xs) := ⟨hl, h⟩
theorem zlm {t : GT} {A rest : GS} {ρ : Env} {M : Mem} {k : Fl -> Mem -> Prop} (ht : t ρ M = .ok true M) (h : okE (A ρ M) (zkv rest k)) : okE (zae (za2 t A zaj) rest ρ M) k := by
  simp only [zbi, zie]
  rw [ht]
  exact h
def zkp (c : Call) : GS := (zae (za2 (zgm (zar (zb6 .str (zab 1))) (zar (za4 .lt (zab 3) (gC (.int 3))))) (zae (zas (zam 66 c (zaa (zab 0) (zaa (zab 1) (zag))))) (zaj)) (zaj)) (zae (zas (zaw (zab 7) (zab 4))) (zaj)))
theorem zn4 {xs : List D} {v : Nat} {M : Mem} (h : v < xs.length) : zgp (.lst xs) (nD v) M = some xs[v] := by
  show (ixN xs.length (v : Int)).bind (fun j => xs[j]?) = _
  rw [zgz h]
  simp [h]
section
variable {P : Nat -> Option Df} (hp_ : zjr P) (ht_ : HasT P) (hw_ : HasW P) {M : Mem}
include hp_ ht_ hw_
theorem zt3 (n : Nat) {k L p B kind pick : Nat} {d : D} {x2 x5 x6 x8 : Option D} (hd : Th k L d) (hk : k ≤ 50) (h6 : 6 ≤ L) (hL : L ≤ 50) (hp : zba M p B) (hB : B ≤ 800000) (hpk : pick < 20) :
    okE (zkp (zay P (n + 5)) [some (.cell p), some d, x2, some (nD kind), some (nD pick), x5, x6, some (.lst zfw), x8] M) (zh6 fun d' M' => Th (k + 1) (L + 1) d' /\ zba M' p (B + 3) /\ zbx p M M') := by
  have fin : okE (zae (zas (zaw (zab 7) (zab 4))) zaj [some (.cell p), some d, x2, some (nD kind), some (nD pick), x5, x6, some (.lst zfw), x8] M) (zh6 fun d' M' => Th (k + 1) (L + 1) d' /\ zba M' p (B + 3) /\ zbx p M M') := by
    have hl : pick < zfw.length := hpk
    exact zqu (v := zfw[pick]) (za1 (by simp [-zqt, zn4 hl])) ⟨(ztg (List.getElem_mem hl)).mono (by omega) (by omega), hp.mono (by omega), .refl⟩
  unfold zkp
  cases d with
  | fn j => exact absurd hd (by cases k <;> exact id)
  | str z =>
    have hz : zf1 L z := by cases k <;> exact hd
    by_cases c : (kind : Int) < 3
    · simp only [zbi, zie, t_and, zq2, zpk, zcr, zn7, e_c, List.getElem?_cons_zero, List.getElem?_cons_succ, Option.getD_some, Option.some.injEq, exists_eq_left', zdp, zdj, zcm, zc2]
      refine ⟨true, rfl, true, rfl, ?_⟩
      rw [if_pos rfl]
      refine ⟨_, rfl, _, rfl, ?_⟩
      rw [decide_eq_true c, if_pos rfl]
      exact zbv (zsl hp_ ht_ n hz (by omega) hp hB) fun d' M' ⟨z', e, h1, h2, h3⟩ => ⟨by rw [e]; exact h1.th.mono (Nat.le_refl _) (Nat.le_refl _), h2, h3⟩
    · refine za7 (zao ?_) fin
      simp [zbo]
      omega
  | _ => exact za7 (zao (by simp [zbo])) fin
omit hp_ ht_ hw_ in
theorem ztf {k : Fl -> Mem -> Prop} {rest : GS} {M : Mem} {x0 x1 x2 x3 x4 x5 x6 x7 x8 : Option D} (hk : okE (rest [x0, x1, x2, x3, x4, x5, x6, some (.lst zfw), x8] M) k) :
    okE (zae (zax (.one 7) (zbw false (zaa (gC .non) (zaa (gC (.bl true)) (zaa (gC (.bl false)) (zaa (gC (.str "")) (zaa (gC (.str "turn")) (zaa (gC (.str "join")) (zaa (gC (.str "move")) (zaa (gC (.str "put")) (zaa (gC (.str "Turn")) (zaa (za3 (zag)) (zaa (zbw false (zag)) (zaa (zap false .pow (gC (.int 10)) (gC (.int 20))) (zaa (zfb (gC (.int 1))) (zaa (gC (.int 0)) (zag))))))))))))))))) (zae (zax (.one 7) (zap false .add (zab 7) (zbw false (zaa (gC (.int 1)) (zaa (gC (.int 4)) (zaa (za3 (zaa (gC (.int 0)) (zag))) (zaa (zbw false (zaa (gC (.int 0)) (zag))) (zaa (gC (.str "0")) (zaa (gC (.int 7)) (zag)))))))))) rest) [x0, x1, x2, x3, x4, x5, x6, x7, x8] M) k := by
  simp only [zbi, zdq]
  have e : ((zbw false (zaa (gC .non) (zaa (gC (.bl true)) (zaa (gC (.bl false)) (zaa (gC (.str "")) (zaa (gC (.str "turn")) (zaa (gC (.str "join")) (zaa (gC (.str "move")) (zaa (gC (.str "put")) (zaa (gC (.str "Turn")) (zaa (za3 (zag)) (zaa (zbw false (zag)) (zaa (zap false .pow (gC (.int 10)) (gC (.int 20))) (zaa (zfb (gC (.int 1))) (zaa (gC (.int 0)) (zag)))))))))))))))) : GE) [x0, x1, x2, x3, x4, x5, x6, x7, x8] M = .ok (.lst (zfw.take 14)) M := by rfl
  rw [e]
  show okE (zae _ rest [x0, x1, x2, x3, x4, x5, x6, some (.lst (zfw.take 14)), x8] M) k
  simp only [zbi, zdq]
  have e2 : ((zap false .add (zab 7) (zbw false (zaa (gC (.int 1)) (zaa (gC (.int 4)) (zaa (za3 (zaa (gC (.int 0)) (zag))) (zaa (zbw false (zaa (gC (.int 0)) (zag))) (zaa (gC (.str "0")) (zaa (gC (.int 7)) (zag))))))))) : GE) [x0, x1, x2, x3, x4, x5, x6, some (.lst (zfw.take 14)), x8] M = .ok (.lst zfw) M := by rfl
  rw [e2]
  exact hk
def zj4 (c : Call) : GS := zae (za2 (zar (zb6 .tuple (zab 1))) (zae (zax (.one 8) (zbw false (zaa (zbe (.list false) (zaa (zab 1) (zag))) (zaa (zap false .add (zab 1) (zdc false false true (zab 1) (gC .non) (gC (.int 1)))) (zaa (zdc false false true (zab 1) (gC .non) (zfb (gC (.int 1)))) (zaa (gRev false (zab 1)) (zaa (zap false .add (zab 1) (za3 (zaa (zab 5) (zag)))) (zaa (zdc false true false (zab 1) (gC (.int 1)) (gC .non)) (zaa (za3 (zaa (zab 1) (zag))) (zag)))))))))) (zae (zas (zaw (zap false .add (zab 8) (zbw false (zaa (zaw (zab 7) (zab 4)) (zag)))) (zab 3))) (zaj))) (zaj)) (zae (za2 (zar (zam 67 c (zaa (zab 1) (zag)))) (zae (zas (zaw (zbw false (zaa (zap false .add (zab 1) (gC (.int 1))) (zaa (zap false .sub (zab 1) (gC (.int 1))) (zaa (zap false .sub (gC (.int 0)) (zab 1)) (zaa (zab 5) (zaa (zab 5) (zaa (za4 .eq (zab 1) (gC (.int 1))) (zaa (zap false .sub (gC (.int 3)) (zab 1)) (zaa (zaw (zab 7) (zab 4)) (zag)))))))))) (zab 3))) (zaj)) (zaj)) (zkp c))
theorem zv0 (n : Nat) {k L p B kind pick : Nat} {num : Int} {d : D} {x2 x6 x8 : Option D} (hd : Th k L d) (hk : k ≤ 50) (h6 : 6 ≤ L) (hL : L ≤ 50) (hp : zba M p B) (hB : B ≤ 800000) (hkd : kind < 8) (hpk : pick < 20) :
    okE (zj4 (zay P (n + 5)) [some (.cell p), some d, x2, some (nD kind), some (nD pick), some (.int num), x6, some (.lst zfw), x8] M) (zh6 fun d' M' => Th (k + 1) (L + 1) d' /\ zba M' p (B + 3) /\ zbx p M M') := by
  have hl : pick < zfw.length := hpk
  have ho : Th (k + 1) (L + 1) zfw[pick] := (ztg (List.getElem_mem hl)).mono (by omega) (by omega)
  have pick8 : ∀ {xs : List D}, xs.length = 8 -> (∀ x ∈ xs, Th (k + 1) (L + 1) x) -> ∃ x, zgp (.lst xs) (nD kind) M = some x /\ Th (k + 1) (L + 1) x := fun {xs} h8 h => ⟨_, zn4 (by omega), h _ (List.getElem_mem _)⟩
  unfold zj4
  have tail := zt3 hp_ ht_ hw_ n (x2 := x2) (x5 := some (.int num)) (x6 := x6) (x8 := x8) (kind := kind) hd hk h6 hL hp hB hpk
  cases d with
  | fn j => exact absurd hd (by cases k <;> exact id)
  | tup xs =>
    refine zlm (zao (by simp [zbo])) ?_
    simp only [zbi, zdq, zdp, zn6, zcm, zc2, zcr, ziw, zhx, e_slc, e_tup, e_neg, e_rev, e_c, zls, List.getElem?_cons_zero, List.getElem?_cons_succ, Option.getD_some, Option.some.injEq, exists_eq_left', List.set_cons_zero, List.set_cons_succ]
    have hx := hd.tup
    have hxl := hx.1
    have hx1 : ∀ d ∈ xs, Th k (L + 1) d := fun d hd => (hx.2 d hd).mono (Nat.le_refl _) (by omega)
    have up : ∀ {ys : List D}, ys.length ≤ L + 1 -> (∀ d ∈ ys, d ∈ xs \/ Th k (L + 1) d) -> Th (k + 1) (L + 1) (.tup ys) := fun {ys} hl h => .tup_of hl fun d hd => by
      rcases h d hd with z | z
      · exact hx1 d z
      · exact z
    refine zvk.mpr (ze8.mpr ⟨za9 (by omega), rfl, rfl, slc_1 fun ys y1 y2 => ?_⟩)
    refine zly.mpr ⟨za9 (by simp; omega), 1, rfl, rfl, rfl, zqi (hl := false) (hh := true) rfl rfl fun i2 j2 => zxc.mpr ⟨za9 (by simp), zly.mpr ⟨za9 (by simp; omega), rfl, rfl, zqi (hl := true) (hh := false) rfl rfl fun i3 j3 => ⟨za9 (by simp), ze8.mpr ⟨za9 (by simp), ?_⟩⟩⟩⟩⟩
    obtain ⟨x, e1, e2⟩ := pick8 (xs := [.lst xs, .tup (xs ++ ys), .tup (cut xs i2 j2), .tup xs.reverse, .tup (xs ++ [.int num]), .tup (cut xs i3 j3), .tup [.tup xs]] ++ [zfw[pick]]) rfl (fun x hx' => by
      simp only [List.cons_append, List.nil_append, List.mem_cons, List.not_mem_nil, or_false] at hx'
      rcases hx' with rfl | rfl | rfl | rfl | rfl | rfl | rfl | rfl
      · exact .lst_of (by omega) hx1
      · exact up (by simp; omega) fun d hd => (List.mem_append.mp hd).elim .inl fun z => .inl (y2 d z)
      · exact up (Nat.le_trans zhd.1 (by omega)) fun d hd => .inl (zhd.2.2 d hd)
      · exact up (by simp; omega) fun d hd => .inl (List.mem_reverse.mp hd)
      · exact up (by simp; omega) fun d hd => by
          rcases List.mem_append.mp hd with z | z
          · exact .inl z
          · rw [List.mem_singleton.mp z]; exact .inr (by cases k <;> trivial)
      · exact up (Nat.le_trans zhd.1 (by omega)) fun d hd => .inl (zhd.2.2 d hd)
      · exact .tup_of (by simp) fun d hd' => by rw [List.mem_singleton.mp hd']; exact hd.mono (Nat.le_refl _) (by omega)
      · exact ho)
    refine zqu (v := x) (za1 ?_) ⟨e2, hp.mono (by omega), .refl⟩
    simp only [zls, zhx, zcr, zn6, zcm, zc2]
    exact ⟨_, rfl, _, rfl, _, rfl, _, zn4 hl, ze8.mpr ⟨za9 (by simp), add_ll.mpr (ze8.mpr ⟨za9 (by simp), _, rfl, x, e1, rfl, rfl⟩)⟩⟩
  | int i =>
    have qw := zi6 hw_ (n + 4) (M := M) hd
    refine za7 (zao (by simp [zbo])) (zlm (zao (by simp [qw, zia])) ?_)
    simp only [zbi, zdp, zn6, zcm, zc2, zcr, zhx, e_c, zls, zn7, List.getElem?_cons_zero, List.getElem?_cons_succ, Option.getD_some, Option.some.injEq, exists_eq_left', zgf, zkx]
    refine ⟨_, rfl, _, zn4 hl, ze8.mpr ⟨za9 (by simp), ?_⟩⟩
    obtain ⟨x, e1, e2⟩ := pick8 (xs := [.int (i + 1), .int (i - 1), .int (0 - i), .int num, .int num, .bl (i == 1), .int (3 - i), zfw[pick]]) rfl (fun x hx => by
      simp only [List.mem_cons, List.not_mem_nil, or_false] at hx
      rcases hx with rfl | rfl | rfl | rfl | rfl | rfl | rfl | rfl
      all_goals first | exact ho | trivial)
    exact ⟨x, e1, e2, hp.mono (by omega), .refl⟩
  | _ =>
    have qw := zi6 hw_ (n + 4) (M := M) hd
    exact za7 (zao (by simp [zbo])) (za7 (zao (by simp [qw, zia])) tail)
omit hp_ ht_ hw_ in
theorem zvg {k L : Nat} {xs : List D} (h : Th k L (.tup xs)) (hk : k ≤ 60) : zb4 .ne (.tup xs) (.tup []) M = some (!xs.isEmpty) := by
  refine zqy (h.mono (n' := 64) (by omega) (Nat.le_refl L)).pure rfl ?_
  cases xs <;> rfl
theorem znf (n deep : Nat) {k L p B : Nat} {d : D} (hd : Th k L d) (hk : k ≤ 50) (h6 : 6 ≤ L) (hL : L ≤ 50) (hp : zba M p B) (hB : B ≤ 700000)
    (ih : 0 < deep -> ∀ {k' B' : Nat} {d' : D} {M' : Mem}, Th k' L d' -> k' ≤ 50 -> zba M' p B' -> B' ≤ B + 4 -> okE (zay P (n + deep + 5) 72 [.cell p, d', .int ((deep : Int) - 1)] M') fun e M'' => Th (k' + 1) (L + 1) e /\ zba M'' p (B' + 6 * deep) /\ zbx p M' M'') :
    okE (zay P (n + deep + 6) 72 [.cell p, d, nD deep] M) fun d' M' => Th (k + 1) (L + 1) d' /\ zba M' p (B + 6 * (deep + 1)) /\ zbx p M M' := by
  refine za5 ht_.bent rfl ?_
  show okE (zae _ (zae _ (zae _ (zae (za2 _ _ zaj) (zae _ (zae _ (zj4 (zay P (n + deep + 5)))))))) [some (.cell p), some d, some (nD deep), none, none, none, none, none, none] M) _
  simp only [zbi, zdq, zcz, zdj, zcm, zc2, e_c, zcr, zhx, List.getElem?_cons_zero, List.getElem?_cons_succ, Option.getD_some, Option.some.injEq, exists_eq_left', List.set_cons_zero, List.set_cons_succ]
  refine tk hp_ (n + deep + 3) (many := 8) hp (by omega) (by decide) (by decide) fun kind M1 hkd q1 k1 => ?_
  refine tk hp_ (n + deep + 3) (many := 20) q1 (by omega) (by decide) (by decide) fun pick M2 hpk q2 k2 => ?_
  refine tk hp_ (n + deep + 3) (many := 9) q2 (by omega) (by decide) (by decide) fun num M3 hnm q3 k3 => ?_
  rw [zkx]
  have K3 := (k1.trans k2).trans k3
  have mid : okE (zae _ (zae _ (zj4 (zay P (n + deep + 5)))) [some (.cell p), some d, some (nD deep), some (nD kind), some (nD pick), some (.int ((num : Int) - 2)), none, none, none] M3) (zh6 fun d' M' => Th (k + 1) (L + 1) d' /\ zba M' p (B + 6 * (deep + 1)) /\ zbx p M M') :=
    ztf (zbv (zv0 hp_ ht_ hw_ (n + deep) hd hk h6 hL q3 (by omega) hkd hpk) fun fl M' hf => by
      cases fl with
      | next ρ => exact ⟨hf.1, hf.2.1.mono (by omega), K3.trans hf.2.2⟩
      | ret e => exact ⟨hf.1, hf.2.1.mono (by omega), K3.trans hf.2.2⟩)
  refine zbi.mp ?_
  cases d with
  | fn j => exact absurd hd (by cases k <;> exact id)
  | tup xs =>
    have ne := zvg (M := M3) hd (by omega)
    by_cases hc : xs ≠ [] /\ 0 < deep /\ 4 < pick
    · obtain ⟨c1, c2, c3⟩ := hc
      have lx : 0 < xs.length := List.length_pos_iff.mpr c1
      have ei : xs.isEmpty = false := by cases xs with | nil => exact absurd rfl c1 | cons _ _ => rfl
      rw [ei] at ne
      refine zlm (zao (by simp [zbo, ne]; omega)) ?_
      have hx := hd.tup
      have hxl := hx.1
      cases k with
      | zero => exact hd.elim
      | succ k' =>
        have hx' : ∀ d ∈ xs, Th k' L d := hd.2
        simp only [zbi, zdq, zdp, zcz, e_tup, zls, e_slc, zdj, zcm, zc2, e_c, zcr, zhx, ziw, List.getElem?_cons_zero, List.getElem?_cons_succ, Option.getD_some, Option.some.injEq, exists_eq_left', List.set_cons_zero, List.set_cons_succ, zml, zgf, zkx]
        refine tk hp_ (n + deep + 3) q3 (by omega) lx (by omega) fun at_ M4 hat q4 k4 => ?_
        refine ⟨rfl, rfl, slt_to hat ?_⟩
        refine ⟨xs[at_], ?_, ?_⟩
        · show (ixN xs.length (at_ : Int)).bind (fun j => xs[j]?) = _
          rw [zgz hat]; simp [hat]
        refine zbv (ih c2 (hx' _ (List.getElem_mem hat)) (by omega) q4 (by omega)) fun e M5 ⟨he, q5, k5⟩ => ?_
        refine ⟨za9 (by simp), zly.mpr ⟨za9 (by simp; omega), rfl, rfl, zuv hat ?_⟩⟩
        refine zly.mpr ⟨za9 (by simp; omega), .tup_of (by simp; omega) fun d hd => ?_, q5.mono (by omega), (K3.trans k4).trans k5⟩
        rcases List.mem_append.mp hd with z | z
        · rcases List.mem_append.mp z with z | z
          · exact (hx' d (List.mem_of_mem_take z)).mono (by omega) (by omega)
          · rw [List.mem_singleton.mp z]; exact he
        · exact (hx' d (List.mem_of_mem_drop z)).mono (by omega) (by omega)
    · refine za7 (zao ?_) mid
      simp [zbo, ne]
      by_cases e0 : xs = []
      · simp [e0]
      · right
        refine ⟨e0, ?_⟩
        have hc' : ¬ (0 < deep /\ 4 < pick) := fun z => hc ⟨e0, z⟩
        omega
  | _ => exact za7 (zao (by simp [zbo])) mid
theorem zl4 : ∀ (deep n : Nat) {k L p B : Nat} {d : D} {M : Mem}, deep ≤ 9 -> Th k L d -> k ≤ 50 -> 6 ≤ L -> L ≤ 50 -> zba M p B -> B + 10 * deep ≤ 700000 ->
    okE (zay P (n + deep + 6) 72 [.cell p, d, nD deep] M) fun d' M' => Th (k + 1) (L + 1) d' /\ zba M' p (B + 6 * (deep + 1)) /\ zbx p M M'
  | 0, n, k, L, p, B, d, M, h9, hd, hk, h6, hL, hp, hB => znf hp_ ht_ hw_ n 0 hd hk h6 hL hp (by omega) (fun z => absurd z (by decide))
  | deep + 1, n, k, L, p, B, d, M, h9, hd, hk, h6, hL, hp, hB => znf hp_ ht_ hw_ n (deep + 1) hd hk h6 hL hp (by omega) (fun _ {k' B' d' M'} h1 h2 h3 h4 => by
      rw [show (((deep + 1 : Nat) : Int) - 1) = (deep : Int) by omega]
      exact zl4 deep n (by omega) h1 h2 h6 hL h3 (by omega))
end
end LD
namespace LD
open PySem
def thB : Nat -> Nat -> D -> Bool
  | _, _, .non => true
  | _, _, .bl _ => true
  | _, _, .int _ => true
  | _, L, .str x => decide (x.cps.size ≤ L) && x.cps.all (· < 0x110000)
  | n + 1, L, .tup ds => decide (ds.length ≤ L) && ds.all (thB n L)
  | n + 1, L, .lst ds => decide (ds.length ≤ L) && ds.all (thB n L)
  | _, _, _ => false
theorem zkw : ∀ {n L : Nat} {d : D}, thB n L d = true -> Th n L d
  | n, L, .non, _ => by cases n <;> trivial
  | n, L, .bl _, _ => by cases n <;> trivial
  | n, L, .int _, _ => by cases n <;> trivial
  | n, L, .str x, h => by
    have q : (decide (x.cps.size ≤ L) && x.cps.all (· < 0x110000)) = true := by cases n <;> exact h
    simp only [Bool.and_eq_true, decide_eq_true_eq] at q
    have q : x.cps.size ≤ L /\ x.cps.all (· < 0x110000) = true := q
    cases n <;> exact q
  | n + 1, L, .tup ds, h => by
    have h : (decide (ds.length ≤ L) && ds.all (thB n L)) = true := h
    simp only [Bool.and_eq_true, decide_eq_true_eq] at h
    exact ⟨h.1, fun d hd => zkw (List.all_eq_true.mp h.2 d hd)⟩
  | n + 1, L, .lst ds, h => by
    have h : (decide (ds.length ≤ L) && ds.all (thB n L)) = true := h
    simp only [Bool.and_eq_true, decide_eq_true_eq] at h
    exact ⟨h.1, fun d hd => zkw (List.all_eq_true.mp h.2 d hd)⟩
  | 0, L, .tup ds, h => by cases h
  | 0, L, .lst ds, h => by cases h
  | n, L, .frz _, h => by cases n <;> cases h
  | n, L, .cell _, h => by cases n <;> cases h
  | n, L, .fn _, h => by cases n <;> cases h
theorem zsh {w : Nat} {t : List Nat} (h : zhb w t) (w4 : w ≤ 4) : Th 2 6 (zf4 t) := by
  refine ⟨by have := h.1; simp; omega, fun d hd => ?_⟩
  obtain ⟨i, _, rfl⟩ := List.mem_map.mp hd
  trivial
theorem zn1 {n : Nat} {z : Str} (h : thB 0 6 (.str z) = true) : Th n 6 (.str z) := (zkw h).mono (Nat.zero_le n) (Nat.le_refl 6)
theorem zgc {n : Nat} {i : Int} : Th n 6 (.int i) := by cases n <;> trivial
theorem zyp {w p : Nat} {d : zbu} (h : zfn w p d) (w4 : w ≤ 4) : Th 4 6 d.d := by
  cases d with
  | turn a t c =>
    refine ⟨by simp, fun x hx => ?_⟩
    simp only [List.mem_cons, List.not_mem_nil, or_false] at hx
    rcases hx with rfl | rfl | rfl | rfl
    · exact zn1 (by decide +kernel)
    · exact zgc
    · exact (zsh h.2.1 w4).mono (by decide) (by decide)
    · exact zgc
  | join a o t c =>
    refine ⟨by simp, fun x hx => ?_⟩
    simp only [List.mem_cons, List.not_mem_nil, or_false] at hx
    rcases hx with rfl | rfl | rfl | rfl | rfl
    · exact zn1 (by decide +kernel)
    · exact zgc
    · exact zgc
    · refine ⟨by have := h.2.2.1.1; simp; omega, fun y hy => ?_⟩
      obtain ⟨z, hz, rfl⟩ := List.mem_map.mp hy
      exact zsh (h.2.2.1.2 z hz) w4
    · exact zgc
  | move a o c =>
    refine ⟨by simp, fun x hx => ?_⟩
    simp only [List.mem_cons, List.not_mem_nil, or_false] at hx
    rcases hx with rfl | rfl | rfl | rfl
    · exact zn1 (by decide +kernel)
    all_goals exact zgc
  | put a o c =>
    refine ⟨by simp, fun x hx => ?_⟩
    simp only [List.mem_cons, List.not_mem_nil, or_false] at hx
    rcases hx with rfl | rfl | rfl | rfl
    · exact zn1 (by decide +kernel)
    all_goals exact zgc
theorem zqq {m : zf6} (h : zp1 m) : Th 6 6 m.d := by
  refine ⟨by simp, fun x hx => ?_⟩
  simp only [List.mem_cons, List.not_mem_nil, or_false] at hx
  rcases hx with rfl | rfl | rfl
  · exact zgc
  · exact zgc
  · refine ⟨by have := h.d6; simpa using this, fun y hy => ?_⟩
    obtain ⟨z, hz, rfl⟩ := List.mem_map.mp hy
    exact zyp (h.ok z hz) h.w4
structure Has01 (P : Nat -> Option Df) : Prop where
  m : HasQ P
  p : zjr P
  t : HasT P
  w : HasW P
  same : P 40 = some ⟨2, 2, zfz⟩
  law : P 73 = some ⟨1, 8, zj5⟩
def zei : D := .tup [.str "put", .int 0, .int 0, .int 1]
def zio : List D := [.non, .int 7, .str "2 1", .tup [], .lst [], .tup [.int 2, .int 1, .tup []], .tup [.int 2, .int 1, .tup (List.replicate 6 zei)], .tup [.int 2, .int 1, .tup (List.replicate 7 zei)], .tup [.int 5, .int 1, .tup [zei]]]
def znz : List D := [.tup [.int 1, .int 1, .tup [zei]], .tup [.int 2, .int 3, .tup [zei]], .tup [.int 2, .int 0, .tup [zei]], .tup [.bl true, .int 1, .tup [zei]], .tup [.int 2, .int 1, .lst [zei]]]
def zny : List D := zio ++ znz ++ [.tup [.int 2, .int 1, zei]]
theorem zw8 : ∀ d ∈ zny, Th 6 7 d := fun d hd => zkw (List.all_eq_true.mp (show zny.all (thB 6 7) = true by decide +kernel) d hd)
section
variable {P : Nat -> Option Df} (h : Has01 P) {M : Mem}
include h
theorem zsm (n : Nat) (b : Bool) : zay P (n + 1) 40 [.bl b, .bl b] M = .ok (.bl true) M := by
  refine za1 (za5 h.same rfl ?_)
  have e : zb4 .eq (.bl b) (.bl b) M = some true := zmq rfl rfl (by cases b <;> rfl)
  simp [zfz, zbo, zis, e]
  exact .inl rfl
theorem zlx {k L : Nat} {d : D} {ρ : Env} {j : Nat} (hj : ρ[j]?.getD none = some d) (hd : Th k L d) (hk : k ≤ 60) (hL : L + 1 ≤ 100) :
    (zb3 (zar (zam 40 (zay P 39) (zaa (zam 12 (zay P 39) (zaa (zab j) zag)) (zaa (zam 71 (zay P 39) (zaa (zab j) zag)) zag)))) : GT) ρ M = .ok false M := by
  have e1 := zoj h.m 32 (M := M) hd (by omega)
  have e2 := zsn h.w 34 (M := M) hd hk hL
  have e3 := zsm h 38 (M := M) (zgb d)
  refine zao ?_
  simp [hj, e1, e2, e3]
theorem law01 (ns : List Int) (hn : ns.length ≤ 63) : ∃ M, zay P 40 73 [.frz (ns.map D.int)] [] = .ok (.bl true) M := by
  have goal : okE (zay P 40 73 [.frz (ns.map D.int)] []) fun d _ => d = .bl true := by
    refine za5 h.law rfl ?_
    simp only [zj5, zbi, zdq, zdj, zcm, zc2, zcr]
    simp only [Option.some.injEq, exists_eq_left', List.getElem?_cons_zero, List.getElem?_cons_succ, Option.getD_some, List.map_cons, List.map_nil, List.cons_append, List.nil_append]
    refine zbv (zw6 h.p 38 hn) fun d M1 ⟨ed, q1⟩ => ?_
    subst ed
    simp only [zcz, zbi, zou, zsc, e_c]
    refine ⟨6, rfl, by decide, ?_⟩
    refine zii (ds := (List.range 6).map fun (k : Nat) => D.int (k : Int)) (fun i ρ M' => zba M' 1 (i * 2000) /\ ∃ x2 x3 x4 x5 x6 x7, ρ = [some (.frz (ns.map D.int)), some (.cell 1), x2, x3, x4, x5, x6, x7]) (fun _ _ _ _ => rfl) ⟨q1, none, none, none, none, none, none, rfl⟩ ?_ ?_
    · rintro i dd ρ M' hd ⟨q2, x2, x3, x4, x5, x6, x7, rfl⟩
      have hi : i < 6 := by
        have := (List.getElem?_eq_some_iff.mp hd).1
        simpa using this
      refine ⟨_, rfl, ?_⟩
      simp only [zbi, zdq, zdj, zcm, zc2, e_c, zcr, zcz, Option.some.injEq, exists_eq_left', List.getElem?_cons_zero, List.getElem?_cons_succ, Option.getD_some, List.set_cons_zero, List.set_cons_succ]
      refine zbv (zw7 h.p 38 q2) fun d M3 ⟨ed, q3, k3⟩ => ?_
      subst ed
      refine zbv (zq3 h.p 34 (W := 4) (Pl := 2) (mo := 6) q3 (by omega) (by decide) (by decide) (by decide) (by decide) (by decide) (by decide)) fun d M4 ⟨m, em, hm, _, _, _, q4, k4⟩ => ?_
      subst em
      have q4' : zba M4 1 (i * 2000 + 300) := q4.mono (by omega)
      refine zbi.mp (za7 (zao (by
        have e := zoj h.m 32 (M := M4) (zqq hm) (by decide)
        rw [ztk hm] at e
        simp [e])) ?_)
      simp only [zbi, zou, zsc, e_c]
      refine ⟨5, rfl, by decide, ?_⟩
      refine zii (ds := (List.range 5).map fun (k : Nat) => D.int (k : Int)) (fun j ρ M' => zba M' 1 (i * 2000 + 300 + j * 100) /\ ∃ x4 x5, ρ = [some (.frz (ns.map D.int)), some (.cell 1), some dd, some m.d, x4, x5, x6, x7]) (fun _ _ _ _ => rfl) ⟨q4', _, _, rfl⟩ ?_ ?_
      · rintro j d5 ρ M5 hd5 ⟨q5, x4, x5, rfl⟩
        have hj : j < 5 := by
          have := (List.getElem?_eq_some_iff.mp hd5).1
          simpa using this
        have ed : d5 = nD j := by
          rw [List.getElem?_map, List.getElem?_range hj] at hd5
          exact (Option.some.inj hd5).symm
        subst ed
        refine ⟨_, rfl, ?_⟩
        simp only [zbi, zdq, zdj, zcm, zc2, e_c, zcr, zcz, Option.some.injEq, exists_eq_left', List.getElem?_cons_zero, List.getElem?_cons_succ, Option.getD_some, List.set_cons_zero, List.set_cons_succ]
        refine zbv (zl4 h.p h.t h.w 5 28 (by decide) (zqq hm) (by decide) (by decide) (by decide) q5 (by omega)) fun d1 M6 ⟨t1, q6, k6⟩ => ?_
        have fin : ∀ (d2 : D) (M7 : Mem), Th 8 8 d2 -> zba M7 1 (i * 2000 + 300 + j * 100 + 80) -> okE (zae (za2 (zb3 (zar (zam 40 (zay P 39) (zaa (zam 12 (zay P 39) (zaa (zab 5) zag)) (zaa (zam 71 (zay P 39) (zaa (zab 5) zag)) zag))))) (zae (zas (gC (.bl false))) zaj) zaj) zaj [some (.frz (ns.map D.int)), some (.cell 1), some dd, some m.d, some (nD j), some d2, x6, x7] M7) (fun fl M => ∃ ρ', fl = .next ρ' /\ zba M 1 (i * 2000 + 300 + (j + 1) * 100) /\ ∃ x4 x5, ρ' = [some (.frz (ns.map D.int)), some (.cell 1), some dd, some m.d, x4, x5, x6, x7]) := fun d2 M7 t2 q7 =>
          za7 (zlx h rfl t2 (by decide) (by decide)) ⟨_, rfl, q7.mono (by omega), _, _, rfl⟩
        by_cases c : (2 : Int) < (j : Int)
        · refine zbi.mp (zlm (zao (by simp; omega)) ?_)
          simp only [zbi, zi9, zdq, zdj, zcm, zc2, e_c, zcr, zcz, Option.some.injEq, exists_eq_left', List.getElem?_cons_zero, List.getElem?_cons_succ, Option.getD_some, List.set_cons_zero, List.set_cons_succ]
          refine zbv (zl4 h.p h.t h.w 5 28 (by decide) t1 (by decide) (by decide) (by decide) q6 (by omega)) fun d2 M7 ⟨t2, q7, k7⟩ => ?_
          exact zbi.mp (fin d2 M7 t2 (q7.mono (by omega)))
        · refine zbi.mp (za7 (zao (by simp; omega)) ?_)
          exact fin d1 M6 (t1.mono (by decide) (by decide)) (q6.mono (by omega))
      · rintro ρ M5 ⟨q5, x4, x5, rfl⟩
        exact ⟨_, rfl, q5.mono (by simp; omega), _, _, _, _, _, _, rfl⟩
    · rintro ρ M' ⟨q2, x2, x3, x4, x5, x6, x7, rfl⟩
      simp only [zcz, zbi, zdq]
      have e1 : ((za3 (zaa (gC (.str "put")) (zaa (gC (.int 0)) (zaa (gC (.int 0)) (zaa (gC (.int 1)) (zag)))))) : GE) [some (.frz (ns.map D.int)), some (.cell 1), x2, x3, x4, x5, x6, x7] M' = .ok zei M' := by rfl
      rw [e1, zlf]
      show okE (zbw _ _ [some (.frz (ns.map D.int)), some (.cell 1), x2, x3, x4, x5, some zei, x7] M') _
      have e2 : ((zbw false (zaa (gC .non) (zaa (gC (.int 7)) (zaa (gC (.str "2 1")) (zaa (za3 (zag)) (zaa (zbw false (zag)) (zaa (za3 (zaa (gC (.int 2)) (zaa (gC (.int 1)) (zaa (za3 (zag)) (zag))))) (zaa (za3 (zaa (gC (.int 2)) (zaa (gC (.int 1)) (zaa (zap false .mul (za3 (zaa (zab 6) (zag))) (gC (.int 6))) (zag))))) (zaa (za3 (zaa (gC (.int 2)) (zaa (gC (.int 1)) (zaa (zap false .mul (za3 (zaa (zab 6) (zag))) (gC (.int 7))) (zag))))) (zaa (za3 (zaa (gC (.int 5)) (zaa (gC (.int 1)) (zaa (za3 (zaa (zab 6) (zag))) (zag))))) (zag))))))))))) : GE) [some (.frz (ns.map D.int)), some (.cell 1), x2, x3, x4, x5, some zei, x7] M' = .ok (.lst zio) M' := by rfl
      rw [e2, zlf]
      show okE (zap _ _ _ _ [some (.frz (ns.map D.int)), some (.cell 1), x2, x3, x4, x5, some zei, some (.lst zio)] M') _
      have e3 : ((zap false .add (zab 7) (zbw false (zaa (za3 (zaa (gC (.int 1)) (zaa (gC (.int 1)) (zaa (za3 (zaa (zab 6) (zag))) (zag))))) (zaa (za3 (zaa (gC (.int 2)) (zaa (gC (.int 3)) (zaa (za3 (zaa (zab 6) (zag))) (zag))))) (zaa (za3 (zaa (gC (.int 2)) (zaa (gC (.int 0)) (zaa (za3 (zaa (zab 6) (zag))) (zag))))) (zaa (za3 (zaa (gC (.bl true)) (zaa (gC (.int 1)) (zaa (za3 (zaa (zab 6) (zag))) (zag))))) (zaa (za3 (zaa (gC (.int 2)) (zaa (gC (.int 1)) (zaa (zbw false (zaa (zab 6) (zag))) (zag))))) (zag)))))))) : GE) [some (.frz (ns.map D.int)), some (.cell 1), x2, x3, x4, x5, some zei, some (.lst zio)] M' = .ok (.lst (zio ++ znz)) M' := by rfl
      rw [e3, zlf]
      show okE (zd1 _ _ _ [some (.frz (ns.map D.int)), some (.cell 1), x2, x3, x4, x5, some zei, some (.lst (zio ++ znz))] M') _
      have e4 : ((zap false .add (zab 7) (zbw false (zaa (za3 (zaa (gC (.int 2)) (zaa (gC (.int 1)) (zaa (zab 6) (zag))))) (zag)))) : GE) [some (.frz (ns.map D.int)), some (.cell 1), x2, x3, x4, x5, some zei, some (.lst (zio ++ znz))] M' = .ok (.lst zny) M' := by rfl
      simp only [zou, w_seq]
      rw [e4, zlf]
      refine ⟨rfl, ?_⟩
      refine zii (ds := zny) (fun j ρ M'' => ∃ x2 x3 x4 x5 x6 x7, ρ = [some (.frz (ns.map D.int)), some (.cell 1), x2, x3, x4, x5, x6, x7]) (fun _ _ _ _ => rfl) ⟨_, _, _, _, _, _, rfl⟩ ?_ ?_
      · rintro j d5 ρ M5 hd5 ⟨y2, y3, y4, y5, y6, y7, rfl⟩
        refine ⟨_, rfl, ?_⟩
        exact za7 (zlx h rfl (zw8 d5 (List.mem_of_getElem? hd5)) (by decide) (by decide)) ⟨_, rfl, _, _, _, _, _, _, rfl⟩
      · rintro ρ M5 ⟨y2, y3, y4, y5, y6, y7, rfl⟩
        simp
  obtain ⟨d, M, e, rfl⟩ := zrj.mp goal
  exact ⟨M, e⟩
end
end LD
namespace K01
open PySem PySem.Spec PyProof.Rows L2 LD
def top (i : Nat) : PySem.Stmt := PySem.Challenge.pw_leastdeeds_k01_what_is_a_machine.main.body.getD i (.Pass ⟨0, 0, 0, 0⟩)
abbrev zdm : PySem.Stmt := top 1
abbrev zet : PySem.Stmt := top 8
abbrev zef : PySem.Stmt := top 9
abbrev zey : PySem.Stmt := top 10
abbrev zc9 : PySem.Stmt := top 11
abbrev zdu : PySem.Stmt := top 12
abbrev zcb : PySem.Stmt := top 13
abbrev zeu : PySem.Stmt := top 14
abbrev zew : PySem.Stmt := top 15
abbrev zev : PySem.Stmt := top 16
abbrev zfh : PySem.Stmt := top 17
abbrev zex : PySem.Stmt := top 19
abbrev zc5 : PySem.Stmt := top 20
abbrev zda : PySem.Stmt := top 22
abbrev zdy : PySem.Stmt := top 23
abbrev zd0 : PySem.Stmt := top 24
abbrev zdx : PySem.Stmt := top 25
abbrev zcl : PySem.Stmt := top 26
abbrev zcw : PySem.Stmt := top 27
abbrev zdb : PySem.Stmt := top 28
abbrev zcv : PySem.Stmt := top 29
abbrev zdh : PySem.Stmt := top 30
abbrev zc3 : PySem.Stmt := top 31
abbrev zdi : PySem.Stmt := top 32
abbrev zc4 : PySem.Stmt := top 33
abbrev zdn : PySem.Stmt := top 34
abbrev zcp : PySem.Stmt := top 35
abbrev zcq : PySem.Stmt := top 36
abbrev zcc : PySem.Stmt := top 37
abbrev zdz : PySem.Stmt := top 38
abbrev zhi : PySem.Stmt := top 39
theorem nd0 : (["thing", "low", "high"] : List Str).Nodup := by decide +kernel
theorem nd1 : (["words", "thing"] : List Str).Nodup := by decide +kernel
theorem nd2 : (["places", "thing"] : List Str).Nodup := by decide +kernel
theorem nd3 : (["thing"] : List Str).Nodup := by decide +kernel
theorem nd4 : (["long", "thing"] : List Str).Nodup := by decide +kernel
theorem nd5 : (["words", "thing"] : List Str).Nodup := by decide +kernel
theorem nd6 : (["word", "words", "thing"] : List Str).Nodup := by decide +kernel
theorem nd7 : (["words", "thing"] : List Str).Nodup := by decide +kernel
theorem nd8 : (["table", "words", "thing"] : List Str).Nodup := by decide +kernel
theorem nd9 : (["words", "places", "parts", "at", "table", "price"] : List Str).Nodup := by decide +kernel
theorem nd10 : (["words", "places", "parts", "at", "other", "table", "price"] : List Str).Nodup := by decide +kernel
theorem nd11 : (["words", "places", "parts", "at", "other", "price"] : List Str).Nodup := by decide +kernel
theorem nd12 : (["words", "places", "parts", "at", "word", "price"] : List Str).Nodup := by decide +kernel
theorem nd13 : (["words", "places", "thing", "sort", "is_sort"] : List Str).Nodup := by decide +kernel
theorem nd14 : (["thing", "words", "places", "deeds"] : List Str).Nodup := by decide +kernel
theorem nd15 : (["deed", "thing", "words", "places", "deeds"] : List Str).Nodup := by decide +kernel
theorem nd16 : (["cell", "at", "primes", "one", "two", "three"] : List Str).Nodup := by decide +kernel
theorem nd17 : (["script", "cells", "k", "cell"] : List Str).Nodup := by decide +kernel
theorem nd18 : (["pen"] : List Str).Nodup := by decide +kernel
theorem nd19 : (["pen", "many", "at", "cell", "found"] : List Str).Nodup := by decide +kernel
theorem nd20 : (["pen", "others", "all_signs", "some"] : List Str).Nodup := by decide +kernel
theorem nd21 : (["sign", "pen", "others", "all_signs", "some"] : List Str).Nodup := by decide +kernel
theorem nd22 : (["pen"] : List Str).Nodup := by decide +kernel
theorem nd23 : (["pen", "text", "at"] : List Str).Nodup := by decide +kernel
theorem nd24 : (["thing"] : List Str).Nodup := by decide +kernel
theorem nd25 : (["found", "due"] : List Str).Nodup := by decide +kernel
theorem nd26 : (["one", "other", "found", "due"] : List Str).Nodup := by decide +kernel
theorem nd27 : (["pen", "words", "kind", "word", "other", "found"] : List Str).Nodup := by decide +kernel
theorem nd28 : (["k", "pen", "words", "kind", "word", "other", "found"] : List Str).Nodup := by decide +kernel
theorem nd29 : (["k", "pen", "words", "kind", "word", "other", "found"] : List Str).Nodup := by decide +kernel
theorem nd30 : (["k", "pen", "words", "kind", "word", "other", "found"] : List Str).Nodup := by decide +kernel
theorem nd31 : (["pen", "words", "places", "kind", "price", "at", "other"] : List Str).Nodup := by decide +kernel
theorem nd32 : (["k", "pen", "words", "places", "kind", "price", "at", "other"] : List Str).Nodup := by decide +kernel
theorem zjd : (["pen", "words", "places", "most", "deeds", "k", "again", "deed"] : List Str).Nodup := by decide +kernel
theorem nd34 : (["thing", "low", "high"] : List Str).Nodup := by decide +kernel
theorem nd35 : (["thing", "many", "low", "high"] : List Str).Nodup := by decide +kernel
theorem nd36 : (["one", "thing", "many", "low", "high"] : List Str).Nodup := by decide +kernel
theorem nd37 : (["thing", "words", "places"] : List Str).Nodup := by decide +kernel
theorem nd38 : (["one", "thing", "words", "places"] : List Str).Nodup := by decide +kernel
theorem nd39 : (["thing"] : List Str).Nodup := by decide +kernel
theorem nd40 : (["deed", "thing"] : List Str).Nodup := by decide +kernel
theorem zjc : (["pen", "thing", "deep", "kind", "pick", "number", "at", "odd", "some"] : List Str).Nodup := by decide +kernel
theorem zhq : (["script", "pen", "turn", "machine", "k", "thing", "idle", "some"] : List Str).Nodup := by decide +kernel
def Pg : Nat -> Option Df
  | 0 => some ⟨3, 3, zel⟩
  | 1 => some ⟨2, 2, zg0⟩
  | 2 => some ⟨2, 2, zge⟩
  | 3 => some ⟨1, 1, zg1⟩
  | 4 => some ⟨2, 2, zd7⟩
  | 5 => some ⟨2, 2, zgd⟩
  | 6 => some ⟨2, 2, zdr⟩
  | 7 => some ⟨3, 6, zea⟩
  | 8 => some ⟨3, 7, zdv⟩
  | 9 => some ⟨3, 6, zeb⟩
  | 10 => some ⟨3, 6, ze3⟩
  | 11 => some ⟨3, 5, zec⟩
  | 12 => some ⟨1, 4, zek⟩
  | 28 => some ⟨2, 6, zf0⟩
  | 29 => some ⟨1, 4, zgt⟩
  | 30 => some ⟨1, 1, zgv⟩
  | 31 => some ⟨2, 5, zh7⟩
  | 32 => some ⟨2, 6, zha⟩
  | 33 => some ⟨3, 7, zgu⟩
  | 34 => some ⟨4, 8, zfv⟩
  | 40 => some ⟨2, 2, zfz⟩
  | 64 => some ⟨2, 4, zed⟩
  | 65 => some ⟨1, 1, zee⟩
  | 66 => some ⟨2, 3, ze6⟩
  | 67 => some ⟨1, 1, zff⟩
  | 68 => some ⟨3, 3, zfl⟩
  | 69 => some ⟨4, 4, zem⟩
  | 70 => some ⟨3, 3, zbf⟩
  | 71 => some ⟨1, 1, zds⟩
  | 72 => some ⟨3, 9, zh8⟩
  | 73 => some ⟨1, 8, zj5⟩
  | _ => none
end K01
set_option maxHeartbeats 4000000
namespace K01
open PySem PySem.Spec PyProof.Rows L2 LD
structure Txt (K : PySem.W.Frag) (w : World) (mg : Str -> Option Value) (fa : Fa) : Prop where
  b_all : mg "all" = none
  b_bool : mg "bool" = none
  b_enumerate : mg "enumerate" = none
  b_int : mg "int" = none
  b_isinstance : mg "isinstance" = none
  b_len : mg "len" = none
  b_list : mg "list" = none
  b_range : mg "range" = none
  b_str : mg "str" = none
  b_tuple : mg "tuple" = none
  b_zip : mg "zip" = none
  c_LEAST_WORDS : ∃ t, mg "LEAST_WORDS" = some (.int 2 t)
  c_MOST_COST : ∃ t, mg "MOST_COST" = some (.int 3 t)
  c_MOST_DEEDS : ∃ t, mg "MOST_DEEDS" = some (.int 6 t)
  c_MOST_PLACES : ∃ t, mg "MOST_PLACES" = some (.int 2 t)
  c_MOST_WORDS : ∃ t, mg "MOST_WORDS" = some (.int 4 t)
  d_SORTS : ∃ ad kvs, mg "SORTS" = some (.ref ad) /\ zgg K w.params ad kvs /\ zej fa kvs zdd
  f_is_between : ∀ ad, fa 0 = some ad -> mg "is_between" = some (.ref ad)
  f_is_word : ∀ ad, fa 1 = some ad -> mg "is_word" = some (.ref ad)
  f_is_place : ∀ ad, fa 2 = some ad -> mg "is_place" = some (.ref ad)
  f_is_cost : ∀ ad, fa 3 = some ad -> mg "is_cost" = some (.ref ad)
  f_is_tuple_of : ∀ ad, fa 4 = some ad -> mg "is_tuple_of" = some (.ref ad)
  f_is_table : ∀ ad, fa 5 = some ad -> mg "is_table" = some (.ref ad)
  f_is_double_table : ∀ ad, fa 6 = some ad -> mg "is_double_table" = some (.ref ad)
  f_is_deed : ∀ ad, fa 11 = some ad -> mg "is_deed" = some (.ref ad)
  f_is_machine : ∀ ad, fa 12 = some ad -> mg "is_machine" = some (.ref ad)
  f__law_spread : ∀ ad, fa 28 = some ad -> mg "_law_spread" = some (.ref ad)
  f__law_open : ∀ ad, fa 29 = some ad -> mg "_law_open" = some (.ref ad)
  f__law_anew : ∀ ad, fa 30 = some ad -> mg "_law_anew" = some (.ref ad)
  f__law_take : ∀ ad, fa 31 = some ad -> mg "_law_take" = some (.ref ad)
  f__law_tab : ∀ ad, fa 32 = some ad -> mg "_law_tab" = some (.ref ad)
  f__law_deed : ∀ ad, fa 33 = some ad -> mg "_law_deed" = some (.ref ad)
  f__law_machine : ∀ ad, fa 34 = some ad -> mg "_law_machine" = some (.ref ad)
  f__law_same : ∀ ad, fa 40 = some ad -> mg "_law_same" = some (.ref ad)
  f__law_sign_but : ∀ ad, fa 64 = some ad -> mg "_law_sign_but" = some (.ref ad)
  f__law_any_sign : ∀ ad, fa 65 = some ad -> mg "_law_any_sign" = some (.ref ad)
  f__law_signed : ∀ ad, fa 66 = some ad -> mg "_law_signed" = some (.ref ad)
  f__law_is_whole : ∀ ad, fa 67 = some ad -> mg "_law_is_whole" = some (.ref ad)
  f__law_is_in : ∀ ad, fa 68 = some ad -> mg "_law_is_in" = some (.ref ad)
  f__law_numbers : ∀ ad, fa 69 = some ad -> mg "_law_numbers" = some (.ref ad)
  f__law_is_deed : ∀ ad, fa 70 = some ad -> mg "_law_is_deed" = some (.ref ad)
  f__law_is_machine : ∀ ad, fa 71 = some ad -> mg "_law_is_machine" = some (.ref ad)
  f__law_bent : ∀ ad, fa 72 = some ad -> mg "_law_bent" = some (.ref ad)
theorem boot_bool : bootBuiltins "bool" = some (.type (tyName .bool)) := by decide +kernel
theorem boot_int : bootBuiltins "int" = some (.type (tyName .int)) := by decide +kernel
theorem boot_list : bootBuiltins "list" = some (.type (tyName .list)) := by decide +kernel
theorem boot_str : bootBuiltins "str" = some (.type (tyName .str)) := by decide +kernel
theorem boot_tuple : bootBuiltins "tuple" = some (.type (tyName .tuple)) := by decide +kernel
section
variable {fa : Fa} {P : Program} {w : World} {K : PySem.W.Frag} {mg : Str -> Option Value} {base : Heap}
theorem znk : zbj ["thing", "low", "high"] ["thing", "low", "high"] (zah zdm) := ⟨rfl, rfl, rfl, nd0, rfl, by decide +kernel, by decide +kernel⟩
variable (T : Txt K w mg fa) {ad : Addr} (c : Call) (n : Nat) (cdv : Value) (A : Around) (outer : List PySem.Env) (s : Shared) (H : Hp) (E : XK) (C : ∀ f, zfp fa P w K mg base n f (c f))
include T C in
theorem zo2 (hr : zbk n (A.deeper (envOfC "is_between" (zah zdm) s.heap.objs.size ad cdv))) :
    DSs fa (zca CX0 P w K mg base ["thing", "low", "high"] "is_between" (zah zdm) ad cdv A outer s H E).nox (zbc zdm) (zel c) := by
  have hu : (A.deeper (envOfC "is_between" (zah zdm) s.heap.objs.size ad cdv)).units + 100 < cLine := by have := hr.un; omega
  exact unbox (zaf (zbb (ze9 (zd8 (zby (zbz .bool (fun _ h => nomatch h) (zad (i := 0) rfl (.inl rfl) rfl rfl) rfl T.b_isinstance rfl T.b_bool boot_bool (by decide) rfl rfl) (fun _ => rfl)) (zdw (zb9 (zby (zbz .int (fun _ h => nomatch h) (zad (i := 0) rfl (.inl rfl) rfl rfl) rfl T.b_isinstance rfl T.b_int boot_int (by decide) rfl rfl) (fun _ => rfl)))))) (zaf (zau (zcf)) (zal)) (zal)) (zaf (zau (zr6 hu .le .le (zad (i := 1) rfl (.inl rfl) rfl rfl) (zad (i := 0) rfl (.inl rfl) rfl rfl) (zad (i := 2) rfl (.inl rfl) rfl rfl) rfl)) (zal)))
theorem zq5 : zbj ["words", "thing"] ["words", "thing"] (zah zet) := ⟨rfl, rfl, rfl, nd1, rfl, by decide +kernel, by decide +kernel⟩
include T C in
theorem zs7 (hr : zbk n (A.deeper (envOfC "is_word" (zah zet) s.heap.objs.size ad cdv))) :
    DSs fa (zca CX0 P w K mg base ["words", "thing"] "is_word" (zah zet) ad cdv A outer s H E).nox (zbc zet) (zg0 c) := by
  have hu : (A.deeper (envOfC "is_word" (zah zet) s.heap.objs.size ad cdv)).units + 100 < cLine := by have := hr.un; omega
  exact unbox (zaf (zau (zan 0 C hr rfl T.f_is_between (zac (zad (i := 1) rfl (.inl rfl) rfl rfl) (zac (zai) (zac (zaq false .sub (zad (i := 0) rfl (.inl rfl) rfl rfl) (zai)) (zak) rfl) rfl) rfl) rfl rfl rfl)) (zal))
theorem zp4 : zbj ["places", "thing"] ["places", "thing"] (zah zef) := ⟨rfl, rfl, rfl, nd2, rfl, by decide +kernel, by decide +kernel⟩
include T C in
theorem zre (hr : zbk n (A.deeper (envOfC "is_place" (zah zef) s.heap.objs.size ad cdv))) :
    DSs fa (zca CX0 P w K mg base ["places", "thing"] "is_place" (zah zef) ad cdv A outer s H E).nox (zbc zef) (zge c) := by
  have hu : (A.deeper (envOfC "is_place" (zah zef) s.heap.objs.size ad cdv)).units + 100 < cLine := by have := hr.un; omega
  exact unbox (zaf (zau (zan 0 C hr rfl T.f_is_between (zac (zad (i := 1) rfl (.inl rfl) rfl rfl) (zac (zai) (zac (zaq false .sub (zad (i := 0) rfl (.inl rfl) rfl rfl) (zai)) (zak) rfl) rfl) rfl) rfl rfl rfl)) (zal))
theorem zra : zbj ["thing"] ["thing"] (zah zey) := ⟨rfl, rfl, rfl, nd3, rfl, by decide +kernel, by decide +kernel⟩
include T C in
theorem ztc (hr : zbk n (A.deeper (envOfC "is_cost" (zah zey) s.heap.objs.size ad cdv))) :
    DSs fa (zca CX0 P w K mg base ["thing"] "is_cost" (zah zey) ad cdv A outer s H E).nox (zbc zey) (zg1 c) := by
  have hu : (A.deeper (envOfC "is_cost" (zah zey) s.heap.objs.size ad cdv)).units + 100 < cLine := by have := hr.un; omega
  exact unbox (zaf (zau (zan 0 C hr rfl T.f_is_between (zac (zad (i := 0) rfl (.inl rfl) rfl rfl) (zac (zai) (zac (zhf (i := 3) rfl T.c_MOST_COST rfl) (zak) rfl) rfl) rfl) rfl rfl rfl)) (zal))
theorem zl5 : zbj ["long", "thing"] ["long", "thing"] (zah zc9) := ⟨rfl, rfl, rfl, nd4, rfl, by decide +kernel, by decide +kernel⟩
include T C in
theorem znm (hr : zbk n (A.deeper (envOfC "is_tuple_of" (zah zc9) s.heap.objs.size ad cdv))) :
    DSs fa (zca CX0 P w K mg base ["long", "thing"] "is_tuple_of" (zah zc9) ad cdv A outer s H E).nox (zbc zc9) (zd7 c) := by
  have hu : (A.deeper (envOfC "is_tuple_of" (zah zc9) s.heap.objs.size ad cdv)).units + 100 < cLine := by have := hr.un; omega
  exact unbox (zaf (zau (zdo (zbz .tuple (fun _ h => nomatch h) (zad (i := 1) rfl (.inl rfl) rfl rfl) rfl T.b_isinstance rfl T.b_tuple boot_tuple (by decide) rfl rfl) (ze4 (ze5 hu .eq (zcs rfl T.b_len (zac (zad (i := 1) rfl (.inl rfl) rfl rfl) (zak) rfl) rfl rfl) (zad (i := 0) rfl (.inl rfl) rfl rfl) rfl)))) (zal))
theorem zp3 : zbj ["words", "thing"] ["words", "thing"] (zah zdu) := ⟨rfl, rfl, rfl, nd5, rfl, by decide +kernel, by decide +kernel⟩
include T C in
theorem zrd (hr : zbk n (A.deeper (envOfC "is_table" (zah zdu) s.heap.objs.size ad cdv))) :
    DSs fa (zca CX0 P w K mg base ["words", "thing"] "is_table" (zah zdu) ad cdv A outer s H E).nox (zbc zdu) (zgd c) := by
  have hu : (A.deeper (envOfC "is_table" (zah zdu) s.heap.objs.size ad cdv)).units + 100 < cLine := by have := hr.un; omega
  exact unbox (zaf (zau (zdo (zan 4 C hr rfl T.f_is_tuple_of (zac (zad (i := 0) rfl (.inr (.inl rfl)) rfl rfl) (zac (zad (i := 1) rfl (.inl rfl) rfl rfl) (zak) rfl) rfl) rfl rfl rfl) (ze4 (zob rfl rfl T.b_all (zac (zfg false (zc6 (own := ["word"]) (bn := ["words", "thing"]) (sc := zah zdu) (N := ["words", "thing"]) rfl rfl rfl (by decide +kernel)) rfl (zgi (zad (i := 1) rfl (.inl rfl) rfl rfl)) (fun cl C0 fp s0 H0 => zat (i := 0) nd6 rfl (.inl rfl) (.inr rfl)) (fun cl C0 fp s0 H0 => zan 1 C hr rfl T.f_is_word (zac (zad (i := 1) rfl (.inr (.inl rfl)) rfl rfl) (zac (zad (i := 0) rfl (.inl rfl) rfl rfl) (zak) rfl) rfl) rfl rfl rfl) rfl (fun _ => rfl)) (zak) rfl) rfl rfl)))) (zal))
theorem zi7 : zbj ["words", "thing"] ["words", "thing"] (zah zcb) := ⟨rfl, rfl, rfl, nd7, rfl, by decide +kernel, by decide +kernel⟩
include T C in
theorem zj6 (hr : zbk n (A.deeper (envOfC "is_double_table" (zah zcb) s.heap.objs.size ad cdv))) :
    DSs fa (zca CX0 P w K mg base ["words", "thing"] "is_double_table" (zah zcb) ad cdv A outer s H E).nox (zbc zcb) (zdr c) := by
  have hu : (A.deeper (envOfC "is_double_table" (zah zcb) s.heap.objs.size ad cdv)).units + 100 < cLine := by have := hr.un; omega
  exact unbox (zaf (zau (zdo (zan 4 C hr rfl T.f_is_tuple_of (zac (zad (i := 0) rfl (.inr (.inl rfl)) rfl rfl) (zac (zad (i := 1) rfl (.inl rfl) rfl rfl) (zak) rfl) rfl) rfl rfl rfl) (ze4 (zob rfl rfl T.b_all (zac (zfg false (zc6 (own := ["table"]) (bn := ["words", "thing"]) (sc := zah zcb) (N := ["words", "thing"]) rfl rfl rfl (by decide +kernel)) rfl (zgi (zad (i := 1) rfl (.inl rfl) rfl rfl)) (fun cl C0 fp s0 H0 => zat (i := 0) nd8 rfl (.inl rfl) (.inr rfl)) (fun cl C0 fp s0 H0 => zan 5 C hr rfl T.f_is_table (zac (zad (i := 1) rfl (.inr (.inl rfl)) rfl rfl) (zac (zad (i := 0) rfl (.inl rfl) rfl rfl) (zak) rfl) rfl) rfl rfl rfl) rfl (fun _ => rfl)) (zak) rfl) rfl rfl)))) (zal))
theorem zq6 : zbj ["words", "places", "parts", "at", "table", "price"] ["words", "places", "parts"] (zah zeu) := ⟨rfl, rfl, rfl, nd9, rfl, by decide +kernel, by decide +kernel⟩
include T C in
theorem zs8 (hr : zbk n (A.deeper (envOfC "is_turn" (zah zeu) s.heap.objs.size ad cdv))) :
    DSs fa (zca CX0 P w K mg base ["words", "places", "parts", "at", "table", "price"] "is_turn" (zah zeu) ad cdv A outer s H E).nox (zbc zeu) (zea c) := by
  have hu : (A.deeper (envOfC "is_turn" (zah zeu) s.heap.objs.size ad cdv)).units + 100 < cLine := by have := hr.un; omega
  exact unbox (zaf (zbb (zbp hu .ne (zcs rfl T.b_len (zac (zad (i := 2) rfl (.inl rfl) rfl rfl) (zak) rfl) rfl rfl) (zai) rfl) (zaf (zau (zcf)) (zal)) (zal)) (zaf (za8 (zad (i := 2) rfl (.inl rfl) rfl rfl) (zgj (l := [3, 4, 5]) rfl nd9 (.cons rfl (.inl rfl) (.inl rfl) (.cons rfl (.inl rfl) (.inl rfl) (.cons rfl (.inl rfl) (.inl rfl) (.nil))))) rfl rfl rfl) (zaf (zau (zdo (zan 2 C hr rfl T.f_is_place (zac (zad (i := 1) rfl (.inl rfl) rfl rfl) (zac (zad (i := 3) rfl (.inl rfl) rfl rfl) (zak) rfl) rfl) rfl rfl rfl) (zdo (zan 5 C hr rfl T.f_is_table (zac (zad (i := 0) rfl (.inl rfl) rfl rfl) (zac (zad (i := 4) rfl (.inl rfl) rfl rfl) (zak) rfl) rfl) rfl rfl rfl) (ze4 (zan 3 C hr rfl T.f_is_cost (zac (zad (i := 5) rfl (.inl rfl) rfl rfl) (zak) rfl) rfl rfl rfl))))) (zal))))
theorem zq8 : zbj ["words", "places", "parts", "at", "other", "table", "price"] ["words", "places", "parts"] (zah zew) := ⟨rfl, rfl, rfl, nd10, rfl, by decide +kernel, by decide +kernel⟩
include T C in
theorem zta (hr : zbk n (A.deeper (envOfC "is_join" (zah zew) s.heap.objs.size ad cdv))) :
    DSs fa (zca CX0 P w K mg base ["words", "places", "parts", "at", "other", "table", "price"] "is_join" (zah zew) ad cdv A outer s H E).nox (zbc zew) (zdv c) := by
  have hu : (A.deeper (envOfC "is_join" (zah zew) s.heap.objs.size ad cdv)).units + 100 < cLine := by have := hr.un; omega
  exact unbox (zaf (zbb (zbp hu .ne (zcs rfl T.b_len (zac (zad (i := 2) rfl (.inl rfl) rfl rfl) (zak) rfl) rfl rfl) (zai) rfl) (zaf (zau (zcf)) (zal)) (zal)) (zaf (za8 (zad (i := 2) rfl (.inl rfl) rfl rfl) (zgj (l := [3, 4, 5, 6]) rfl nd10 (.cons rfl (.inl rfl) (.inl rfl) (.cons rfl (.inl rfl) (.inl rfl) (.cons rfl (.inl rfl) (.inl rfl) (.cons rfl (.inl rfl) (.inl rfl) (.nil)))))) rfl rfl rfl) (zaf (zbb (ze9 (zd8 (zb9 (zby (zan 2 C hr rfl T.f_is_place (zac (zad (i := 1) rfl (.inl rfl) rfl rfl) (zac (zad (i := 3) rfl (.inl rfl) rfl rfl) (zak) rfl) rfl) rfl rfl rfl) (fun _ => rfl))) (zdw (zb9 (zby (zan 2 C hr rfl T.f_is_place (zac (zad (i := 1) rfl (.inl rfl) rfl rfl) (zac (zad (i := 4) rfl (.inl rfl) rfl rfl) (zak) rfl) rfl) rfl rfl rfl) (fun _ => rfl)))))) (zaf (zau (zcf)) (zal)) (zal)) (zaf (zau (zdo (zan 6 C hr rfl T.f_is_double_table (zac (zad (i := 0) rfl (.inl rfl) rfl rfl) (zac (zad (i := 5) rfl (.inl rfl) rfl rfl) (zak) rfl) rfl) rfl rfl rfl) (ze4 (zan 3 C hr rfl T.f_is_cost (zac (zad (i := 6) rfl (.inl rfl) rfl rfl) (zak) rfl) rfl rfl rfl)))) (zal)))))
theorem zq7 : zbj ["words", "places", "parts", "at", "other", "price"] ["words", "places", "parts"] (zah zev) := ⟨rfl, rfl, rfl, nd11, rfl, by decide +kernel, by decide +kernel⟩
include T C in
theorem zs9 (hr : zbk n (A.deeper (envOfC "is_move" (zah zev) s.heap.objs.size ad cdv))) :
    DSs fa (zca CX0 P w K mg base ["words", "places", "parts", "at", "other", "price"] "is_move" (zah zev) ad cdv A outer s H E).nox (zbc zev) (zeb c) := by
  have hu : (A.deeper (envOfC "is_move" (zah zev) s.heap.objs.size ad cdv)).units + 100 < cLine := by have := hr.un; omega
  exact unbox (zaf (zbb (zbp hu .ne (zcs rfl T.b_len (zac (zad (i := 2) rfl (.inl rfl) rfl rfl) (zak) rfl) rfl rfl) (zai) rfl) (zaf (zau (zcf)) (zal)) (zal)) (zaf (za8 (zad (i := 2) rfl (.inl rfl) rfl rfl) (zgj (l := [3, 4, 5]) rfl nd11 (.cons rfl (.inl rfl) (.inl rfl) (.cons rfl (.inl rfl) (.inl rfl) (.cons rfl (.inl rfl) (.inl rfl) (.nil))))) rfl rfl rfl) (zaf (zau (zdo (zan 2 C hr rfl T.f_is_place (zac (zad (i := 1) rfl (.inl rfl) rfl rfl) (zac (zad (i := 3) rfl (.inl rfl) rfl rfl) (zak) rfl) rfl) rfl rfl rfl) (zdo (zan 2 C hr rfl T.f_is_place (zac (zad (i := 1) rfl (.inl rfl) rfl rfl) (zac (zad (i := 4) rfl (.inl rfl) rfl rfl) (zak) rfl) rfl) rfl rfl rfl) (ze4 (zan 3 C hr rfl T.f_is_cost (zac (zad (i := 5) rfl (.inl rfl) rfl rfl) (zak) rfl) rfl rfl rfl))))) (zal))))
theorem zss : zbj ["words", "places", "parts", "at", "word", "price"] ["words", "places", "parts"] (zah zfh) := ⟨rfl, rfl, rfl, nd12, rfl, by decide +kernel, by decide +kernel⟩
include T C in
theorem zva (hr : zbk n (A.deeper (envOfC "is_put" (zah zfh) s.heap.objs.size ad cdv))) :
    DSs fa (zca CX0 P w K mg base ["words", "places", "parts", "at", "word", "price"] "is_put" (zah zfh) ad cdv A outer s H E).nox (zbc zfh) (ze3 c) := by
  have hu : (A.deeper (envOfC "is_put" (zah zfh) s.heap.objs.size ad cdv)).units + 100 < cLine := by have := hr.un; omega
  exact unbox (zaf (zbb (zbp hu .ne (zcs rfl T.b_len (zac (zad (i := 2) rfl (.inl rfl) rfl rfl) (zak) rfl) rfl rfl) (zai) rfl) (zaf (zau (zcf)) (zal)) (zal)) (zaf (za8 (zad (i := 2) rfl (.inl rfl) rfl rfl) (zgj (l := [3, 4, 5]) rfl nd12 (.cons rfl (.inl rfl) (.inl rfl) (.cons rfl (.inl rfl) (.inl rfl) (.cons rfl (.inl rfl) (.inl rfl) (.nil))))) rfl rfl rfl) (zaf (zau (zdo (zan 2 C hr rfl T.f_is_place (zac (zad (i := 1) rfl (.inl rfl) rfl rfl) (zac (zad (i := 3) rfl (.inl rfl) rfl rfl) (zak) rfl) rfl) rfl rfl rfl) (zdo (zan 1 C hr rfl T.f_is_word (zac (zad (i := 0) rfl (.inl rfl) rfl rfl) (zac (zad (i := 4) rfl (.inl rfl) rfl rfl) (zak) rfl) rfl) rfl rfl rfl) (ze4 (zan 3 C hr rfl T.f_is_cost (zac (zad (i := 5) rfl (.inl rfl) rfl rfl) (zak) rfl) rfl rfl rfl))))) (zal))))
theorem zq9 : zbj ["words", "places", "thing", "sort", "is_sort"] ["words", "places", "thing"] (zah zex) := ⟨rfl, rfl, rfl, nd13, rfl, by decide +kernel, by decide +kernel⟩
include T C in
theorem ztb (hr : zbk n (A.deeper (envOfC "is_deed" (zah zex) s.heap.objs.size ad cdv))) :
    DSs fa (zca CX0 P w K mg base ["words", "places", "thing", "sort", "is_sort"] "is_deed" (zah zex) ad cdv A outer s H E).nox (zbc zex) (zec c) := by
  have hu : (A.deeper (envOfC "is_deed" (zah zex) s.heap.objs.size ad cdv)).units + 100 < cLine := by have := hr.un; omega
  exact unbox (zaf (zbb (ze9 (zd8 (zb9 (zby (zbz .tuple (fun _ h => nomatch h) (zad (i := 2) rfl (.inl rfl) rfl rfl) rfl T.b_isinstance rfl T.b_tuple boot_tuple (by decide) rfl rfl) (fun _ => rfl))) (zdw (zb9 (zby (zad (i := 2) rfl (.inl rfl) rfl rfl) (fun _ => rfl)))))) (zaf (zau (zcf)) (zal)) (zal)) (zaf (za8 (zbg (zad (i := 2) rfl (.inl rfl) rfl rfl) (zai) (fun _ _ => rfl)) (zat (i := 3) nd13 rfl (.inl rfl) (.inl rfl)) rfl rfl rfl) (zaf (zbb (ze9 (zd8 (zb9 (zby (zbz .str (fun _ h => nomatch h) (zad (i := 3) rfl (.inl rfl) rfl rfl) rfl T.b_isinstance rfl T.b_str boot_str (by decide) rfl rfl) (fun _ => rfl))) (zdw (zuc T.d_SORTS rfl rfl (zad (i := 3) rfl (.inl rfl) rfl rfl) rfl)))) (zaf (zau (zcf)) (zal)) (zal)) (zaf (za8 (zua T.d_SORTS rfl rfl (zad (i := 3) rfl (.inl rfl) rfl rfl) (fun _ _ => rfl)) (zat (i := 4) nd13 rfl (.inl rfl) (.inl rfl)) rfl rfl rfl) (zaf (zau (zub (i := 4) C hr rfl (.inl rfl) (zac (zad (i := 0) rfl (.inl rfl) rfl rfl) (zac (zad (i := 1) rfl (.inl rfl) rfl rfl) (zac (zf8 false true false (zad (i := 2) rfl (.inl rfl) rfl rfl) (zd6 (zai)) (ze7)) (zak) rfl) rfl) rfl) rfl rfl rfl rfl)) (zal))))))
theorem znj : zbj ["thing", "words", "places", "deeds"] ["thing"] (zah zc5) := ⟨rfl, rfl, rfl, nd14, rfl, by decide +kernel, by decide +kernel⟩
include T C in
theorem zo1 (hr : zbk n (A.deeper (envOfC "is_machine" (zah zc5) s.heap.objs.size ad cdv))) :
    DSs fa (zca CX0 P w K mg base ["thing", "words", "places", "deeds"] "is_machine" (zah zc5) ad cdv A outer s H E).nox (zbc zc5) (zek c) := by
  have hu : (A.deeper (envOfC "is_machine" (zah zc5) s.heap.objs.size ad cdv)).units + 100 < cLine := by have := hr.un; omega
  exact unbox (zaf (zbb (zb9 (zby (zan 4 C hr rfl T.f_is_tuple_of (zac (zai) (zac (zad (i := 0) rfl (.inl rfl) rfl rfl) (zak) rfl) rfl) rfl rfl rfl) (fun _ => rfl))) (zaf (zau (zcf)) (zal)) (zal)) (zaf (za8 (zad (i := 0) rfl (.inl rfl) rfl rfl) (zgj (l := [1, 2, 3]) rfl nd14 (.cons rfl (.inr rfl) (.inl rfl) (.cons rfl (.inr rfl) (.inl rfl) (.cons rfl (.inl rfl) (.inl rfl) (.nil))))) rfl rfl rfl) (zaf (zbb (ze9 (zd8 (zb9 (zby (zan 0 C hr rfl T.f_is_between (zac (zad (i := 1) rfl (.inr (.inl rfl)) rfl rfl) (zac (zhf (i := 2) rfl T.c_LEAST_WORDS rfl) (zac (zhf (i := 4) rfl T.c_MOST_WORDS rfl) (zak) rfl) rfl) rfl) rfl rfl rfl) (fun _ => rfl))) (zdw (zb9 (zby (zan 0 C hr rfl T.f_is_between (zac (zad (i := 2) rfl (.inr (.inl rfl)) rfl rfl) (zac (zai) (zac (zhf (i := 2) rfl T.c_MOST_PLACES rfl) (zak) rfl) rfl) rfl) rfl rfl rfl) (fun _ => rfl)))))) (zaf (zau (zcf)) (zal)) (zal)) (zaf (zbb (ze9 (zd8 (zb9 (zby (zbz .tuple (fun _ h => nomatch h) (zad (i := 3) rfl (.inl rfl) rfl rfl) rfl T.b_isinstance rfl T.b_tuple boot_tuple (by decide) rfl rfl) (fun _ => rfl))) (zdw (zb9 (zr7 hu .le .le (zai) (zcs rfl T.b_len (zac (zad (i := 3) rfl (.inl rfl) rfl rfl) (zak) rfl) rfl rfl) (zhf (i := 6) rfl T.c_MOST_DEEDS rfl) rfl))))) (zaf (zau (zcf)) (zal)) (zal)) (zaf (zau (zob rfl rfl T.b_all (zac (zfg false (zc6 (own := ["deed"]) (bn := ["thing", "words", "places", "deeds"]) (sc := zah zc5) (N := ["thing", "words", "places", "deeds"]) rfl rfl rfl (by decide +kernel)) rfl (zgi (zad (i := 3) rfl (.inl rfl) rfl rfl)) (fun cl C0 fp s0 H0 => zat (i := 0) nd15 rfl (.inl rfl) (.inr rfl)) (fun cl C0 fp s0 H0 => zan 11 C hr rfl T.f_is_deed (zac (zad (i := 2) rfl (.inr (.inl rfl)) rfl rfl) (zac (zad (i := 3) rfl (.inr (.inl rfl)) rfl rfl) (zac (zad (i := 0) rfl (.inl rfl) rfl rfl) (zak) rfl) rfl) rfl) rfl rfl rfl) rfl (fun _ => rfl)) (zak) rfl) rfl rfl)) (zal))))))
theorem zl6 : zbj ["cell", "at", "primes", "one", "two", "three"] ["cell", "at"] (zah zda) := ⟨rfl, rfl, rfl, nd16, rfl, by decide +kernel, by decide +kernel⟩
include T C in
theorem znn (hr : zbk n (A.deeper (envOfC "_law_spread" (zah zda) s.heap.objs.size ad cdv))) :
    DSs fa (zca CX0 P w K mg base ["cell", "at", "primes", "one", "two", "three"] "_law_spread" (zah zda) ad cdv A outer s H E).nox (zbc zda) (zf0 c) := by
  have hu : (A.deeper (envOfC "_law_spread" (zah zda) s.heap.objs.size ad cdv)).units + 100 < cLine := by have := hr.un; omega
  exact unbox (zaf (zbb (zbp hu .ge (zad (i := 0) rfl (.inl rfl) rfl rfl) (zaq false .pow (zai) (zai)) rfl) (zaf (zau (zad (i := 0) rfl (.inl rfl) rfl rfl)) (zal)) (zal)) (zaf (za8 (zcy false (zac (zai) (zac (zai) (zac (zai) (zac (zai) (zac (zai) (zac (zai) (zac (zai) (zac (zai) (zak) rfl) rfl) rfl) rfl) rfl) rfl) rfl) rfl)) (zat (i := 2) nd16 rfl (.inl rfl) (.inl rfl)) rfl rfl rfl) (zaf (za8 (zaq false .add (zad (i := 2) rfl (.inl rfl) rfl rfl) (zcy false (zac (zai) (zac (zai) (zac (zai) (zac (zai) (zac (zai) (zak) rfl) rfl) rfl) rfl) rfl))) (zat (i := 2) nd16 rfl (.inl rfl) (.inl rfl)) rfl rfl rfl) (zaf (za8 (zaq false .mod (zaq false .pow (zaq false .add (zaq false .add (zaq false .mul (zaq false .mod (zad (i := 0) rfl (.inl rfl) rfl rfl) (zai)) (zaq false .add (zaq false .mul (zai) (zad (i := 1) rfl (.inl rfl) rfl rfl)) (zai))) (zaq false .mul (zad (i := 1) rfl (.inl rfl) rfl rfl) (zai))) (zai)) (zai)) (zbg (zad (i := 2) rfl (.inl rfl) rfl rfl) (zaq false .mod (zad (i := 1) rfl (.inl rfl) rfl rfl) (zai)) (fun _ _ => rfl))) (zat (i := 3) nd16 rfl (.inl rfl) (.inl rfl)) rfl rfl rfl) (zaf (za8 (zaq false .mod (zaq false .pow (zaq false .add (zaq false .add (zaq false .mul (zad (i := 3) rfl (.inl rfl) rfl rfl) (zaq false .add (zad (i := 1) rfl (.inl rfl) rfl rfl) (zai))) (zaq false .mod (zad (i := 0) rfl (.inl rfl) rfl rfl) (zai))) (zai)) (zai)) (zbg (zad (i := 2) rfl (.inl rfl) rfl rfl) (zaq false .mod (zaq false .add (zad (i := 1) rfl (.inl rfl) rfl rfl) (zai)) (zai)) (fun _ _ => rfl))) (zat (i := 4) nd16 rfl (.inl rfl) (.inl rfl)) rfl rfl rfl) (zaf (za8 (zaq false .mod (zaq false .pow (zaq false .add (zaq false .add (zad (i := 4) rfl (.inl rfl) rfl rfl) (zaq false .mod (zad (i := 3) rfl (.inl rfl) rfl rfl) (zai))) (zad (i := 1) rfl (.inl rfl) rfl rfl)) (zai)) (zbg (zad (i := 2) rfl (.inl rfl) rfl rfl) (zaq false .mod (zaq false .add (zad (i := 1) rfl (.inl rfl) rfl rfl) (zai)) (zai)) (fun _ _ => rfl))) (zat (i := 5) nd16 rfl (.inl rfl) (.inl rfl)) rfl rfl rfl) (zaf (zau (zaq false .add (zaq false .mul (zaq false .add (zaq false .mul (zad (i := 3) rfl (.inl rfl) rfl rfl) (zai)) (zad (i := 4) rfl (.inl rfl) rfl rfl)) (zai)) (zad (i := 5) rfl (.inl rfl) rfl rfl))) (zal))))))))
theorem zoq : zbj ["script", "cells", "k", "cell"] ["script"] (zah zdy) := ⟨rfl, rfl, rfl, nd17, rfl, by decide +kernel, by decide +kernel⟩
include T C in
theorem zp8 (hr : zbk n (A.deeper (envOfC "_law_open" (zah zdy) s.heap.objs.size ad cdv))) :
    DSs fa (zca CX0 P w K mg base ["script", "cells", "k", "cell"] "_law_open" (zah zdy) ad cdv A outer s H E).nox (zbc zdy) (zgt c) := by
  have hu : (A.deeper (envOfC "_law_open" (zah zdy) s.heap.objs.size ad cdv)).units + 100 < cLine := by have := hr.un; omega
  exact unbox (zaf (za8 (zqe true rfl T.b_list (zac (zf8 false false true (zad (i := 0) rfl (.inl rfl) rfl rfl) (ze7) (zd6 (zai))) (zak) rfl) rfl rfl) (zat (i := 1) nd17 rfl (.inl rfl) (.inl rfl)) rfl rfl rfl) (zaf (zi1 PassesOwn.never rfl (zuf (zf8 false true true (zad (i := 0) rfl (.inl rfl) rfl rfl) (zd6 (zai)) (zd6 (zai))) rfl T.b_enumerate rfl) (zgj (l := [2, 3]) rfl nd17 (.cons rfl (.inl rfl) (.inl rfl) (.cons rfl (.inl rfl) (.inl rfl) (.nil)))) (zaf (zhe (zad (i := 1) rfl (.inl rfl) rfl rfl) (zaq false .mod (zad (i := 2) rfl (.inl rfl) rfl rfl) (zai)) (zaq false .add (zbg (zad (i := 1) rfl (.inl rfl) rfl rfl) (zaq false .mod (zad (i := 2) rfl (.inl rfl) rfl rfl) (zai)) (fun _ _ => rfl)) (zad (i := 3) rfl (.inl rfl) rfl rfl)) (fun _ => rfl) rfl rfl rfl) (zal)) (fun _ => rfl)) (zaf (zau (zcy true (zac (zad (i := 1) rfl (.inl rfl) rfl rfl) (zac (zai) (zac (zai) (zak) rfl) rfl) rfl))) (zal))))
theorem zot : zbj ["pen"] ["pen"] (zah zd0) := ⟨rfl, rfl, rfl, nd18, rfl, by decide +kernel, by decide +kernel⟩
include T C in
theorem zqb (hr : zbk n (A.deeper (envOfC "_law_anew" (zah zd0) s.heap.objs.size ad cdv))) :
    DSs fa (zca CX0 P w K mg base ["pen"] "_law_anew" (zah zd0) ad cdv A outer s H E).nox (zbc zd0) (zgv c) := by
  have hu : (A.deeper (envOfC "_law_anew" (zah zd0) s.heap.objs.size ad cdv)).units + 100 < cLine := by have := hr.un; omega
  exact unbox (zaf (zhe (zad (i := 0) rfl (.inl rfl) rfl rfl) (zai) (zai) (fun _ => rfl) rfl rfl rfl) (zaf (zau (zad (i := 0) rfl (.inl rfl) rfl rfl)) (zal)))
theorem zoo : zbj ["pen", "many", "at", "cell", "found"] ["pen", "many"] (zah zdx) := ⟨rfl, rfl, rfl, nd19, rfl, by decide +kernel, by decide +kernel⟩
include T C in
theorem zp6 (hr : zbk n (A.deeper (envOfC "_law_take" (zah zdx) s.heap.objs.size ad cdv))) :
    DSs fa (zca CX0 P w K mg base ["pen", "many", "at", "cell", "found"] "_law_take" (zah zdx) ad cdv A outer s H E).nox (zbc zdx) (zh7 c) := by
  have hu : (A.deeper (envOfC "_law_take" (zah zdx) s.heap.objs.size ad cdv)).units + 100 < cLine := by have := hr.un; omega
  exact unbox (zaf (zbb (zbp hu .lt (zbg (zad (i := 0) rfl (.inl rfl) rfl rfl) (zai) (fun _ _ => rfl)) (zad (i := 1) rfl (.inl rfl) rfl rfl) rfl) (zaf (za8 (zbg (zad (i := 0) rfl (.inl rfl) rfl rfl) (zai) (fun _ _ => rfl)) (zat (i := 2) nd19 rfl (.inl rfl) (.inl rfl)) rfl rfl rfl) (zaf (za8 (zai) (zat (i := 3) nd19 rfl (.inl rfl) (.inl rfl)) rfl rfl rfl) (zaf (zbb (zbp hu .lt (zad (i := 2) rfl (.inl rfl) rfl rfl) (zcs rfl T.b_len (zac (zbg (zad (i := 0) rfl (.inl rfl) rfl rfl) (zai) (fun _ _ => rfl)) (zak) rfl) rfl rfl) rfl) (zaf (za8 (zbg (zbg (zad (i := 0) rfl (.inl rfl) rfl rfl) (zai) (fun _ _ => rfl)) (zad (i := 2) rfl (.inl rfl) rfl rfl) (fun _ _ => rfl)) (zat (i := 3) nd19 rfl (.inl rfl) (.inl rfl)) rfl rfl rfl) (zal)) (zaf (zbb (zbp hu .gt (zcs rfl T.b_len (zac (zbg (zad (i := 0) rfl (.inl rfl) rfl rfl) (zai) (fun _ _ => rfl)) (zak) rfl) rfl rfl) (zai) rfl) (zaf (za8 (zaq false .mod (zbg (zbg (zad (i := 0) rfl (.inl rfl) rfl rfl) (zai) (fun _ _ => rfl)) (zaq false .mod (zaq false .add (zaq false .mul (zad (i := 2) rfl (.inl rfl) rfl rfl) (zai)) (zai)) (zcs rfl T.b_len (zac (zbg (zad (i := 0) rfl (.inl rfl) rfl rfl) (zai) (fun _ _ => rfl)) (zak) rfl) rfl rfl)) (fun _ _ => rfl)) (zaq false .add (zaq false .pow (zai) (zai)) (zad (i := 2) rfl (.inl rfl) rfl rfl))) (zat (i := 3) nd19 rfl (.inl rfl) (.inl rfl)) rfl rfl rfl) (zal)) (zal)) (zal))) (zaf (zhe (zad (i := 0) rfl (.inl rfl) rfl rfl) (zai) (zaq false .add (zad (i := 2) rfl (.inl rfl) rfl rfl) (zai)) (fun _ => rfl) rfl rfl rfl) (zaf (zhe (zad (i := 0) rfl (.inl rfl) rfl rfl) (zai) (zan 28 C hr rfl T.f__law_spread (zac (zad (i := 3) rfl (.inl rfl) rfl rfl) (zac (zad (i := 2) rfl (.inl rfl) rfl rfl) (zak) rfl) rfl) rfl rfl rfl) (fun _ => rfl) rfl rfl rfl) (zal)))))) (zal)) (zaf (za8 (zaq false .mod (zbg (zad (i := 0) rfl (.inl rfl) rfl rfl) (zai) (fun _ _ => rfl)) (zad (i := 1) rfl (.inl rfl) rfl rfl)) (zat (i := 4) nd19 rfl (.inl rfl) (.inl rfl)) rfl rfl rfl) (zaf (zhe (zad (i := 0) rfl (.inl rfl) rfl rfl) (zai) (zaq false .fdiv (zbg (zad (i := 0) rfl (.inl rfl) rfl rfl) (zai) (fun _ _ => rfl)) (zad (i := 1) rfl (.inl rfl) rfl rfl)) (fun _ => rfl) rfl rfl rfl) (zaf (zau (zad (i := 4) rfl (.inl rfl) rfl rfl)) (zal)))))
theorem zkh : zbj ["pen", "others", "all_signs", "some"] ["pen", "others"] (zah zcl) := ⟨rfl, rfl, rfl, nd20, rfl, by decide +kernel, by decide +kernel⟩
include T C in
theorem zlc (hr : zbk n (A.deeper (envOfC "_law_sign_but" (zah zcl) s.heap.objs.size ad cdv))) :
    DSs fa (zca CX0 P w K mg base ["pen", "others", "all_signs", "some"] "_law_sign_but" (zah zcl) ad cdv A outer s H E).nox (zbc zcl) (zed c) := by
  have hu : (A.deeper (envOfC "_law_sign_but" (zah zcl) s.heap.objs.size ad cdv)).units + 100 < cLine := by have := hr.un; omega
  exact unbox (zaf (za8 (zcj) (zat (i := 2) nd20 rfl (.inl rfl) (.inl rfl)) rfl rfl rfl) (zaf (za8 (zaq false .add (zad (i := 2) rfl (.inl rfl) rfl rfl) (zcj)) (zat (i := 2) nd20 rfl (.inl rfl) (.inl rfl)) rfl rfl rfl) (zaf (zr4 false (zc6 (own := ["sign"]) (bn := ["pen", "others", "all_signs", "some"]) (sc := zah zcl) (N := ["pen", "others", "all_signs", "some"]) rfl rfl rfl (by decide +kernel)) rfl (zue (zad (i := 2) rfl (.inl rfl) rfl rfl)) (fun cl C0 fp s0 H0 => zat (i := 0) nd21 rfl (.inl rfl) (.inr rfl)) (fun cl C0 fp s0 H0 => zbp hu .notin (zad (i := 0) rfl (.inl rfl) rfl rfl) (zad (i := 2) rfl (.inr (.inl rfl)) rfl rfl) rfl) (fun cl C0 fp s0 H0 => zad (i := 0) rfl (.inl rfl) rfl rfl) rfl (fun _ => rfl) nd20 rfl rfl rfl) (zaf (zau (zbg (zad (i := 3) rfl (.inl rfl) rfl rfl) (zan 31 C hr rfl T.f__law_take (zac (zad (i := 0) rfl (.inl rfl) rfl rfl) (zac (zcs rfl T.b_len (zac (zad (i := 3) rfl (.inl rfl) rfl rfl) (zak) rfl) rfl rfl) (zak) rfl) rfl) rfl rfl rfl) (fun _ _ => rfl))) (zal)))))
theorem zkj : zbj ["pen"] ["pen"] (zah zcw) := ⟨rfl, rfl, rfl, nd22, rfl, by decide +kernel, by decide +kernel⟩
include T C in
theorem zle (hr : zbk n (A.deeper (envOfC "_law_any_sign" (zah zcw) s.heap.objs.size ad cdv))) :
    DSs fa (zca CX0 P w K mg base ["pen"] "_law_any_sign" (zah zcw) ad cdv A outer s H E).nox (zbc zcw) (zee c) := by
  have hu : (A.deeper (envOfC "_law_any_sign" (zah zcw) s.heap.objs.size ad cdv)).units + 100 < cLine := by have := hr.un; omega
  exact unbox (zaf (zau (zan 64 C hr rfl T.f__law_sign_but (zac (zad (i := 0) rfl (.inl rfl) rfl rfl) (zac (zcj) (zak) rfl) rfl) rfl rfl rfl)) (zal))
theorem zl7 : zbj ["pen", "text", "at"] ["pen", "text"] (zah zdb) := ⟨rfl, rfl, rfl, nd23, rfl, by decide +kernel, by decide +kernel⟩
include T C in
theorem zno (hr : zbk n (A.deeper (envOfC "_law_signed" (zah zdb) s.heap.objs.size ad cdv))) :
    DSs fa (zca CX0 P w K mg base ["pen", "text", "at"] "_law_signed" (zah zdb) ad cdv A outer s H E).nox (zbc zdb) (ze6 c) := by
  have hu : (A.deeper (envOfC "_law_signed" (zah zdb) s.heap.objs.size ad cdv)).units + 100 < cLine := by have := hr.un; omega
  exact unbox (zaf (za8 (zan 31 C hr rfl T.f__law_take (zac (zad (i := 0) rfl (.inl rfl) rfl rfl) (zac (zaq false .add (zcs rfl T.b_len (zac (zad (i := 1) rfl (.inl rfl) rfl rfl) (zak) rfl) rfl rfl) (zai)) (zak) rfl) rfl) rfl rfl rfl) (zat (i := 2) nd23 rfl (.inl rfl) (.inl rfl)) rfl rfl rfl) (zaf (zau (zaq false .add (zaq false .add (zqd false true (zad (i := 1) rfl (.inl rfl) rfl rfl) (ze7) (zd6 (zad (i := 2) rfl (.inl rfl) rfl rfl))) (zan 65 C hr rfl T.f__law_any_sign (zac (zad (i := 0) rfl (.inl rfl) rfl rfl) (zak) rfl) rfl rfl rfl)) (zqd true false (zad (i := 1) rfl (.inl rfl) rfl rfl) (zd6 (zaq false .add (zad (i := 2) rfl (.inl rfl) rfl rfl) (zan 31 C hr rfl T.f__law_take (zac (zad (i := 0) rfl (.inl rfl) rfl rfl) (zac (zai) (zak) rfl) rfl) rfl rfl rfl))) (ze7)))) (zal)))
theorem zki : zbj ["thing"] ["thing"] (zah zcv) := ⟨rfl, rfl, rfl, nd24, rfl, by decide +kernel, by decide +kernel⟩
include T C in
theorem zld (hr : zbk n (A.deeper (envOfC "_law_is_whole" (zah zcv) s.heap.objs.size ad cdv))) :
    DSs fa (zca CX0 P w K mg base ["thing"] "_law_is_whole" (zah zcv) ad cdv A outer s H E).nox (zbc zcv) (zff c) := by
  have hu : (A.deeper (envOfC "_law_is_whole" (zah zcv) s.heap.objs.size ad cdv)).units + 100 < cLine := by have := hr.un; omega
  exact unbox (zaf (zau (zdo (zbz .int (fun _ h => nomatch h) (zad (i := 0) rfl (.inl rfl) rfl rfl) rfl T.b_isinstance rfl T.b_int boot_int (by decide) rfl rfl) (ze4 (xr_not (zbz .bool (fun _ h => nomatch h) (zad (i := 0) rfl (.inl rfl) rfl rfl) rfl T.b_isinstance rfl T.b_bool boot_bool (by decide) rfl rfl))))) (zal))
theorem zop : zbj ["found", "due"] ["found", "due"] (zah zdh) := ⟨rfl, rfl, rfl, nd25, rfl, by decide +kernel, by decide +kernel⟩
include T C in
theorem zp7 (hr : zbk n (A.deeper (envOfC "_law_same" (zah zdh) s.heap.objs.size ad cdv))) :
    DSs fa (zca CX0 P w K mg base ["found", "due"] "_law_same" (zah zdh) ad cdv A outer s H E).nox (zbc zdh) (zfz c) := by
  have hu : (A.deeper (envOfC "_law_same" (zah zdh) s.heap.objs.size ad cdv)).units + 100 < cLine := by have := hr.un; omega
  exact unbox (zaf (zbb (zbp hu .isN (zad (i := 1) rfl (.inl rfl) rfl rfl) (zku) rfl) (zaf (zau (ze5 hu .isN (zad (i := 0) rfl (.inl rfl) rfl rfl) (zku) rfl)) (zal)) (zal)) (zaf (zbb (ze9 (zd8 (zby (zbz .bool (fun _ h => nomatch h) (zad (i := 1) rfl (.inl rfl) rfl rfl) rfl T.b_isinstance rfl T.b_bool boot_bool (by decide) rfl rfl) (fun _ => rfl)) (zdw (zby (zbz .bool (fun _ h => nomatch h) (zad (i := 0) rfl (.inl rfl) rfl rfl) rfl T.b_isinstance rfl T.b_bool boot_bool (by decide) rfl rfl) (fun _ => rfl))))) (zaf (zau (zdo (zbz .bool (fun _ h => nomatch h) (zad (i := 1) rfl (.inl rfl) rfl rfl) rfl T.b_isinstance rfl T.b_bool boot_bool (by decide) rfl rfl) (zdo (zbz .bool (fun _ h => nomatch h) (zad (i := 0) rfl (.inl rfl) rfl rfl) rfl T.b_isinstance rfl T.b_bool boot_bool (by decide) rfl rfl) (ze4 (ze5 hu .eq (zad (i := 0) rfl (.inl rfl) rfl rfl) (zad (i := 1) rfl (.inl rfl) rfl rfl) rfl))))) (zal)) (zal)) (zaf (zbb (zby (zbz .int (fun _ h => nomatch h) (zad (i := 1) rfl (.inl rfl) rfl rfl) rfl T.b_isinstance rfl T.b_int boot_int (by decide) rfl rfl) (fun _ => rfl)) (zaf (zau (zdo (zbz .int (fun _ h => nomatch h) (zad (i := 0) rfl (.inl rfl) rfl rfl) rfl T.b_isinstance rfl T.b_int boot_int (by decide) rfl rfl) (ze4 (ze5 hu .eq (zad (i := 0) rfl (.inl rfl) rfl rfl) (zad (i := 1) rfl (.inl rfl) rfl rfl) rfl)))) (zal)) (zal)) (zaf (zbb (zby (zbz .str (fun _ h => nomatch h) (zad (i := 1) rfl (.inl rfl) rfl rfl) rfl T.b_isinstance rfl T.b_str boot_str (by decide) rfl rfl) (fun _ => rfl)) (zaf (zau (zdo (zbz .str (fun _ h => nomatch h) (zad (i := 0) rfl (.inl rfl) rfl rfl) rfl T.b_isinstance rfl T.b_str boot_str (by decide) rfl rfl) (ze4 (ze5 hu .eq (zad (i := 0) rfl (.inl rfl) rfl rfl) (zad (i := 1) rfl (.inl rfl) rfl rfl) rfl)))) (zal)) (zal)) (zaf (zbb (ze9 (zd8 (zbp hu .ne (zbz .tuple (fun _ h => nomatch h) (zad (i := 1) rfl (.inl rfl) rfl rfl) rfl T.b_isinstance rfl T.b_tuple boot_tuple (by decide) rfl rfl) (zbz .tuple (fun _ h => nomatch h) (zad (i := 0) rfl (.inl rfl) rfl rfl) rfl T.b_isinstance rfl T.b_tuple boot_tuple (by decide) rfl rfl) rfl) (zdw (zbp hu .ne (zbz .list (fun _ h => nomatch h) (zad (i := 1) rfl (.inl rfl) rfl rfl) rfl T.b_isinstance rfl T.b_list boot_list (by decide) rfl rfl) (zbz .list (fun _ h => nomatch h) (zad (i := 0) rfl (.inl rfl) rfl rfl) rfl T.b_isinstance rfl T.b_list boot_list (by decide) rfl rfl) rfl)))) (zaf (zau (zcf)) (zal)) (zal)) (zaf (zbb (zbp hu .ne (zcs rfl T.b_len (zac (zad (i := 0) rfl (.inl rfl) rfl rfl) (zak) rfl) rfl rfl) (zcs rfl T.b_len (zac (zad (i := 1) rfl (.inl rfl) rfl rfl) (zak) rfl) rfl rfl) rfl) (zaf (zau (zcf)) (zal)) (zal)) (zaf (zau (ze5 hu .notin (zcf) (zfg false (zc6 (own := ["one", "other"]) (bn := ["found", "due"]) (sc := zah zdh) (N := ["found", "due"]) rfl rfl rfl (by decide +kernel)) rfl (zud (zad (i := 0) rfl (.inl rfl) rfl rfl) (zad (i := 1) rfl (.inl rfl) rfl rfl) rfl T.b_zip rfl rfl) (fun cl C0 fp s0 H0 => zgj (l := [0, 1]) rfl nd26 (.cons rfl (.inl rfl) (.inr rfl) (.cons rfl (.inl rfl) (.inr rfl) (.nil)))) (fun cl C0 fp s0 H0 => zan 40 C hr rfl T.f__law_same (zac (zad (i := 0) rfl (.inl rfl) rfl rfl) (zac (zad (i := 1) rfl (.inl rfl) rfl rfl) (zak) rfl) rfl) rfl rfl rfl) rfl (fun _ => rfl)) rfl)) (zal))))))))
theorem zp5 : zbj ["pen", "words", "kind", "word", "other", "found"] ["pen", "words"] (zah zc3) := ⟨rfl, rfl, rfl, nd27, rfl, by decide +kernel, by decide +kernel⟩
include T C in
theorem zrf (hr : zbk n (A.deeper (envOfC "_law_tab" (zah zc3) s.heap.objs.size ad cdv))) :
    DSs fa (zca CX0 P w K mg base ["pen", "words", "kind", "word", "other", "found"] "_law_tab" (zah zc3) ad cdv A outer s H E).nox (zbc zc3) (zha c) := by
  have hu : (A.deeper (envOfC "_law_tab" (zah zc3) s.heap.objs.size ad cdv)).units + 100 < cLine := by have := hr.un; omega
  exact unbox (zaf (za8 (zan 31 C hr rfl T.f__law_take (zac (zad (i := 0) rfl (.inr (.inl rfl)) rfl rfl) (zac (zai) (zak) rfl) rfl) rfl rfl rfl) (zat (i := 2) nd27 rfl (.inl rfl) (.inl rfl)) rfl rfl rfl) (zaf (za8 (zan 31 C hr rfl T.f__law_take (zac (zad (i := 0) rfl (.inr (.inl rfl)) rfl rfl) (zac (zad (i := 1) rfl (.inr (.inl rfl)) rfl rfl) (zak) rfl) rfl) rfl rfl rfl) (zat (i := 3) nd27 rfl (.inr rfl) (.inl rfl)) rfl rfl rfl) (zaf (za8 (zan 31 C hr rfl T.f__law_take (zac (zad (i := 0) rfl (.inr (.inl rfl)) rfl rfl) (zac (zad (i := 1) rfl (.inr (.inl rfl)) rfl rfl) (zak) rfl) rfl) rfl rfl rfl) (zat (i := 4) nd27 rfl (.inr rfl) (.inl rfl)) rfl rfl rfl) (zaf (zbb (zbp hu .lt (zad (i := 2) rfl (.inl rfl) rfl rfl) (zai) rfl) (zaf (zau (zgh rfl T.b_tuple (zac (zfg false (zc6 (own := ["k"]) (bn := ["pen", "words", "kind", "word", "other", "found"]) (sc := zah zc3) (N := ["pen", "words", "kind", "word", "other", "found"]) rfl rfl rfl (by decide +kernel)) rfl (zf2 (zad (i := 1) rfl (.inr (.inl rfl)) rfl rfl) rfl T.b_range rfl) (fun cl C0 fp s0 H0 => zat (i := 0) nd30 rfl (.inl rfl) (.inr rfl)) (fun cl C0 fp s0 H0 => zan 31 C hr rfl T.f__law_take (zac (zad (i := 1) rfl (.inr (.inl rfl)) rfl rfl) (zac (zad (i := 2) rfl (.inr (.inl rfl)) rfl rfl) (zak) rfl) rfl) rfl rfl rfl) rfl (fun _ => rfl)) (zak) rfl) rfl rfl)) (zal)) (zal)) (zaf (zbb (zbp hu .eq (zad (i := 2) rfl (.inl rfl) rfl rfl) (zai) rfl) (zaf (zau (zgh rfl T.b_tuple (zac (zfg false (zc6 (own := ["k"]) (bn := ["pen", "words", "kind", "word", "other", "found"]) (sc := zah zc3) (N := ["pen", "words", "kind", "word", "other", "found"]) rfl rfl rfl (by decide +kernel)) rfl (zf2 (zad (i := 1) rfl (.inr (.inl rfl)) rfl rfl) rfl T.b_range rfl) (fun cl C0 fp s0 H0 => zat (i := 0) nd29 rfl (.inl rfl) (.inr rfl)) (fun cl C0 fp s0 H0 => zaq false .mod (zaq false .add (zaq false .add (zad (i := 0) rfl (.inl rfl) rfl rfl) (zai)) (zad (i := 4) rfl (.inr (.inl rfl)) rfl rfl)) (zad (i := 2) rfl (.inr (.inl rfl)) rfl rfl)) rfl (fun _ => rfl)) (zak) rfl) rfl rfl)) (zal)) (zal)) (zaf (zbb (zbp hu .eq (zad (i := 2) rfl (.inl rfl) rfl rfl) (zai) rfl) (zaf (zau (zgh rfl T.b_tuple (zac (zfg false (zc6 (own := ["k"]) (bn := ["pen", "words", "kind", "word", "other", "found"]) (sc := zah zc3) (N := ["pen", "words", "kind", "word", "other", "found"]) rfl rfl rfl (by decide +kernel)) rfl (zf2 (zad (i := 1) rfl (.inr (.inl rfl)) rfl rfl) rfl T.b_range rfl) (fun cl C0 fp s0 H0 => zat (i := 0) nd28 rfl (.inl rfl) (.inr rfl)) (fun cl C0 fp s0 H0 => zr5 (zbp hu .eq (zad (i := 0) rfl (.inl rfl) rfl rfl) (zad (i := 4) rfl (.inr (.inl rfl)) rfl rfl) rfl) (zad (i := 5) rfl (.inr (.inl rfl)) rfl rfl) (zad (i := 0) rfl (.inl rfl) rfl rfl)) rfl (fun _ => rfl)) (zak) rfl) rfl rfl)) (zal)) (zal)) (zaf (zbb (zbp hu .eq (zad (i := 2) rfl (.inl rfl) rfl rfl) (zai) rfl) (zaf (zau (zaq false .mul (zbt (zac (zad (i := 3) rfl (.inr (.inl rfl)) rfl rfl) (zak) rfl)) (zad (i := 1) rfl (.inr (.inl rfl)) rfl rfl))) (zal)) (zal)) (zaf (za8 (zt9 true rfl (zad (i := 1) rfl (.inr (.inl rfl)) rfl rfl) rfl T.b_list rfl T.b_range rfl rfl) (zat (i := 5) nd27 rfl (.inl rfl) (.inl rfl)) rfl rfl rfl) (zaf (zhe (zad (i := 5) rfl (.inl rfl) rfl rfl) (zad (i := 3) rfl (.inr (.inl rfl)) rfl rfl) (zad (i := 4) rfl (.inr (.inl rfl)) rfl rfl) (fun _ => rfl) rfl rfl rfl) (zaf (zhe (zad (i := 5) rfl (.inl rfl) rfl rfl) (zad (i := 4) rfl (.inr (.inl rfl)) rfl rfl) (zad (i := 3) rfl (.inr (.inl rfl)) rfl rfl) (fun _ => rfl) rfl rfl rfl) (zaf (zau (zgh rfl T.b_tuple (zac (zad (i := 5) rfl (.inl rfl) rfl rfl) (zak) rfl) rfl rfl)) (zal))))))))))))
theorem zor : zbj ["pen", "words", "places", "kind", "price", "at", "other"] ["pen", "words", "places"] (zah zdi) := ⟨rfl, rfl, rfl, nd31, rfl, by decide +kernel, by decide +kernel⟩
include T C in
theorem zp9 (hr : zbk n (A.deeper (envOfC "_law_deed" (zah zdi) s.heap.objs.size ad cdv))) :
    DSs fa (zca CX0 P w K mg base ["pen", "words", "places", "kind", "price", "at", "other"] "_law_deed" (zah zdi) ad cdv A outer s H E).nox (zbc zdi) (zgu c) := by
  have hu : (A.deeper (envOfC "_law_deed" (zah zdi) s.heap.objs.size ad cdv)).units + 100 < cLine := by have := hr.un; omega
  exact unbox (zaf (za8 (zan 31 C hr rfl T.f__law_take (zac (zad (i := 0) rfl (.inr (.inl rfl)) rfl rfl) (zac (zai) (zak) rfl) rfl) rfl rfl rfl) (zat (i := 3) nd31 rfl (.inl rfl) (.inl rfl)) rfl rfl rfl) (zaf (za8 (zaq false .add (zai) (zan 31 C hr rfl T.f__law_take (zac (zad (i := 0) rfl (.inr (.inl rfl)) rfl rfl) (zac (zai) (zak) rfl) rfl) rfl rfl rfl)) (zat (i := 4) nd31 rfl (.inl rfl) (.inl rfl)) rfl rfl rfl) (zaf (za8 (zan 31 C hr rfl T.f__law_take (zac (zad (i := 0) rfl (.inr (.inl rfl)) rfl rfl) (zac (zad (i := 2) rfl (.inl rfl) rfl rfl) (zak) rfl) rfl) rfl rfl rfl) (zat (i := 5) nd31 rfl (.inl rfl) (.inl rfl)) rfl rfl rfl) (zaf (za8 (zan 31 C hr rfl T.f__law_take (zac (zad (i := 0) rfl (.inr (.inl rfl)) rfl rfl) (zac (zad (i := 2) rfl (.inl rfl) rfl rfl) (zak) rfl) rfl) rfl rfl rfl) (zat (i := 6) nd31 rfl (.inl rfl) (.inl rfl)) rfl rfl rfl) (zaf (zbb (zbp hu .lt (zad (i := 3) rfl (.inl rfl) rfl rfl) (zai) rfl) (zaf (zau (zbt (zac (zcj) (zac (zad (i := 5) rfl (.inl rfl) rfl rfl) (zac (zan 32 C hr rfl T.f__law_tab (zac (zad (i := 0) rfl (.inr (.inl rfl)) rfl rfl) (zac (zad (i := 1) rfl (.inr (.inl rfl)) rfl rfl) (zak) rfl) rfl) rfl rfl rfl) (zac (zad (i := 4) rfl (.inl rfl) rfl rfl) (zak) rfl) rfl) rfl) rfl))) (zal)) (zal)) (zaf (zbb (zbp hu .lt (zad (i := 3) rfl (.inl rfl) rfl rfl) (zai) rfl) (zaf (zau (zbt (zac (zcj) (zac (zad (i := 5) rfl (.inl rfl) rfl rfl) (zac (zr5 (zbp hu .eq (zad (i := 3) rfl (.inl rfl) rfl rfl) (zai) rfl) (zaq false .mod (zaq false .add (zad (i := 5) rfl (.inl rfl) rfl rfl) (zai)) (zad (i := 2) rfl (.inl rfl) rfl rfl)) (zad (i := 6) rfl (.inl rfl) rfl rfl)) (zac (zad (i := 4) rfl (.inl rfl) rfl rfl) (zak) rfl) rfl) rfl) rfl))) (zal)) (zal)) (zaf (zbb (zbp hu .eq (zad (i := 3) rfl (.inl rfl) rfl rfl) (zai) rfl) (zaf (zau (zbt (zac (zcj) (zac (zad (i := 5) rfl (.inl rfl) rfl rfl) (zac (zan 31 C hr rfl T.f__law_take (zac (zad (i := 0) rfl (.inr (.inl rfl)) rfl rfl) (zac (zad (i := 1) rfl (.inr (.inl rfl)) rfl rfl) (zak) rfl) rfl) rfl rfl rfl) (zac (zad (i := 4) rfl (.inl rfl) rfl rfl) (zak) rfl) rfl) rfl) rfl))) (zal)) (zal)) (zaf (zau (zbt (zac (zcj) (zac (zad (i := 5) rfl (.inl rfl) rfl rfl) (zac (zad (i := 6) rfl (.inl rfl) rfl rfl) (zac (zgh rfl T.b_tuple (zac (zfg false (zc6 (own := ["k"]) (bn := ["pen", "words", "places", "kind", "price", "at", "other"]) (sc := zah zdi) (N := ["pen", "words", "places", "kind", "price", "at", "other"]) rfl rfl rfl (by decide +kernel)) rfl (zf2 (zad (i := 1) rfl (.inr (.inl rfl)) rfl rfl) rfl T.b_range rfl) (fun cl C0 fp s0 H0 => zat (i := 0) nd32 rfl (.inl rfl) (.inr rfl)) (fun cl C0 fp s0 H0 => zan 32 C hr rfl T.f__law_tab (zac (zad (i := 1) rfl (.inr (.inl rfl)) rfl rfl) (zac (zad (i := 2) rfl (.inr (.inl rfl)) rfl rfl) (zak) rfl) rfl) rfl rfl rfl) rfl (fun _ => rfl)) (zak) rfl) rfl rfl) (zac (zad (i := 4) rfl (.inl rfl) rfl rfl) (zak) rfl) rfl) rfl) rfl) rfl))) (zal)))))))))
theorem zk1 : zbj ["pen", "words", "places", "most", "deeds", "k", "again", "deed"] ["pen", "words", "places", "most"] (zah zc4) := ⟨rfl, rfl, rfl, zjd, rfl, by decide +kernel, by decide +kernel⟩
include T C in
theorem zmd (hr : zbk n (A.deeper (envOfC "_law_machine" (zah zc4) s.heap.objs.size ad cdv))) :
    DSs fa (zca CX0 P w K mg base ["pen", "words", "places", "most", "deeds", "k", "again", "deed"] "_law_machine" (zah zc4) ad cdv A outer s H E).nox (zbc zc4) (zfv c) := by
  have hu : (A.deeper (envOfC "_law_machine" (zah zc4) s.heap.objs.size ad cdv)).units + 100 < cLine := by have := hr.un; omega
  exact unbox (zaf (za8 (zaq false .add (zai) (zan 31 C hr rfl T.f__law_take (zac (zad (i := 0) rfl (.inl rfl) rfl rfl) (zac (zaq false .sub (zad (i := 1) rfl (.inl rfl) rfl rfl) (zai)) (zak) rfl) rfl) rfl rfl rfl)) (zat (i := 1) zjd rfl (.inl rfl) (.inl rfl)) rfl rfl rfl) (zaf (za8 (zaq false .add (zai) (zan 31 C hr rfl T.f__law_take (zac (zad (i := 0) rfl (.inl rfl) rfl rfl) (zac (zad (i := 2) rfl (.inl rfl) rfl rfl) (zak) rfl) rfl) rfl rfl rfl)) (zat (i := 2) zjd rfl (.inl rfl) (.inl rfl)) rfl rfl rfl) (zaf (za8 (zcy true (zak)) (zat (i := 4) zjd rfl (.inl rfl) (.inl rfl)) rfl rfl rfl) (zaf (zi1 PassesOwn.never rfl (zf2 (zaq false .add (zai) (zan 31 C hr rfl T.f__law_take (zac (zad (i := 0) rfl (.inl rfl) rfl rfl) (zac (zad (i := 3) rfl (.inl rfl) rfl rfl) (zak) rfl) rfl) rfl rfl rfl)) rfl T.b_range rfl) (zat (i := 5) zjd rfl (.inl rfl) (.inl rfl)) (zaf (za8 (zan 31 C hr rfl T.f__law_take (zac (zad (i := 0) rfl (.inl rfl) rfl rfl) (zac (zai) (zak) rfl) rfl) rfl rfl rfl) (zat (i := 6) zjd rfl (.inl rfl) (.inl rfl)) rfl rfl rfl) (zaf (za8 (zan 33 C hr rfl T.f__law_deed (zac (zad (i := 0) rfl (.inl rfl) rfl rfl) (zac (zad (i := 1) rfl (.inl rfl) rfl rfl) (zac (zad (i := 2) rfl (.inl rfl) rfl rfl) (zak) rfl) rfl) rfl) rfl rfl rfl) (zat (i := 7) zjd rfl (.inl rfl) (.inl rfl)) rfl rfl rfl) (zaf (zbb (ze9 (zi4 (zbp hu .eq (zad (i := 6) rfl (.inl rfl) rfl rfl) (zai) rfl) (zl0 (zbp hu .ne (zad (i := 4) rfl (.inl rfl) rfl rfl) (zcy false (zak)) rfl)))) (zaf (za8 (zaq false .add (zf8 false false true (zbg (zad (i := 4) rfl (.inl rfl) rfl rfl) (zan 31 C hr rfl T.f__law_take (zac (zad (i := 0) rfl (.inl rfl) rfl rfl) (zac (zcs rfl T.b_len (zac (zad (i := 4) rfl (.inl rfl) rfl rfl) (zak) rfl) rfl rfl) (zak) rfl) rfl) rfl rfl rfl) (fun _ _ => rfl)) (ze7) (zd6 (zi2 (zai)))) (zbt (zac (zbg (zad (i := 7) rfl (.inl rfl) rfl rfl) (zi2 (zai)) (fun _ _ => rfl)) (zak) rfl))) (zat (i := 7) zjd rfl (.inl rfl) (.inl rfl)) rfl rfl rfl) (zal)) (zal)) (zaf (xs_app (zad (i := 4) rfl (.inl rfl) rfl rfl) (zad (i := 7) rfl (.inl rfl) rfl rfl) rfl rfl rfl rfl) (zal))))) (fun _ => rfl)) (zaf (zau (zbt (zac (zad (i := 1) rfl (.inl rfl) rfl rfl) (zac (zad (i := 2) rfl (.inl rfl) rfl rfl) (zac (zgh rfl T.b_tuple (zac (zad (i := 4) rfl (.inl rfl) rfl rfl) (zak) rfl) rfl rfl) (zak) rfl) rfl) rfl))) (zal))))))
theorem znl : zbj ["thing", "low", "high"] ["thing", "low", "high"] (zah zdn) := ⟨rfl, rfl, rfl, nd34, rfl, by decide +kernel, by decide +kernel⟩
include T C in
theorem zo3 (hr : zbk n (A.deeper (envOfC "_law_is_in" (zah zdn) s.heap.objs.size ad cdv))) :
    DSs fa (zca CX0 P w K mg base ["thing", "low", "high"] "_law_is_in" (zah zdn) ad cdv A outer s H E).nox (zbc zdn) (zfl c) := by
  have hu : (A.deeper (envOfC "_law_is_in" (zah zdn) s.heap.objs.size ad cdv)).units + 100 < cLine := by have := hr.un; omega
  exact unbox (zaf (zau (zdo (zan 67 C hr rfl T.f__law_is_whole (zac (zad (i := 0) rfl (.inl rfl) rfl rfl) (zak) rfl) rfl rfl rfl) (ze4 (zr6 hu .le .le (zad (i := 1) rfl (.inl rfl) rfl rfl) (zad (i := 0) rfl (.inl rfl) rfl rfl) (zad (i := 2) rfl (.inl rfl) rfl rfl) rfl)))) (zal))
theorem zk0 : zbj ["thing", "many", "low", "high"] ["thing", "many", "low", "high"] (zah zcp) := ⟨rfl, rfl, rfl, nd35, rfl, by decide +kernel, by decide +kernel⟩
include T C in
theorem zmc (hr : zbk n (A.deeper (envOfC "_law_numbers" (zah zcp) s.heap.objs.size ad cdv))) :
    DSs fa (zca CX0 P w K mg base ["thing", "many", "low", "high"] "_law_numbers" (zah zcp) ad cdv A outer s H E).nox (zbc zcp) (zem c) := by
  have hu : (A.deeper (envOfC "_law_numbers" (zah zcp) s.heap.objs.size ad cdv)).units + 100 < cLine := by have := hr.un; omega
  exact unbox (zaf (zbb (ze9 (zd8 (zb9 (zby (zbz .tuple (fun _ h => nomatch h) (zad (i := 0) rfl (.inl rfl) rfl rfl) rfl T.b_isinstance rfl T.b_tuple boot_tuple (by decide) rfl rfl) (fun _ => rfl))) (zdw (zbp hu .ne (zcs rfl T.b_len (zac (zad (i := 0) rfl (.inl rfl) rfl rfl) (zak) rfl) rfl rfl) (zad (i := 1) rfl (.inl rfl) rfl rfl) rfl)))) (zaf (zau (zcf)) (zal)) (zal)) (zaf (zau (ze5 hu .eq (zi3 false (zc6 (own := ["one"]) (bn := ["thing", "many", "low", "high"]) (sc := zah zcp) (N := ["thing", "many", "low", "high"]) rfl rfl rfl (by decide +kernel)) rfl (zgi (zad (i := 0) rfl (.inl rfl) rfl rfl)) (fun cl C0 fp s0 H0 => zat (i := 0) nd36 rfl (.inl rfl) (.inr rfl)) (fun cl C0 fp s0 H0 => zb9 (zby (zan 68 C hr rfl T.f__law_is_in (zac (zad (i := 0) rfl (.inl rfl) rfl rfl) (zac (zad (i := 3) rfl (.inr (.inl rfl)) rfl rfl) (zac (zad (i := 4) rfl (.inr (.inl rfl)) rfl rfl) (zak) rfl) rfl) rfl) rfl rfl rfl) (fun _ => rfl))) (fun cl C0 fp s0 H0 => zai) rfl (fun _ => rfl)) (zcy false (zak)) rfl)) (zal)))
theorem zk2 : zbj ["thing", "words", "places"] ["thing", "words", "places"] (zah zcq) := ⟨rfl, rfl, rfl, nd37, rfl, by decide +kernel, by decide +kernel⟩
include T C in
theorem zme (hr : zbk n (A.deeper (envOfC "_law_is_deed" (zah zcq) s.heap.objs.size ad cdv))) :
    DSs fa (zca CX0 P w K mg base ["thing", "words", "places"] "_law_is_deed" (zah zcq) ad cdv A outer s H E).nox (zbc zcq) (zbf c) := by
  have hu : (A.deeper (envOfC "_law_is_deed" (zah zcq) s.heap.objs.size ad cdv)).units + 100 < cLine := by have := hr.un; omega
  exact unbox (zaf (zbb (ze9 (zd8 (zb9 (zby (zbz .tuple (fun _ h => nomatch h) (zad (i := 0) rfl (.inl rfl) rfl rfl) rfl T.b_isinstance rfl T.b_tuple boot_tuple (by decide) rfl rfl) (fun _ => rfl))) (zdw (zbp hu .notin (zcs rfl T.b_len (zac (zad (i := 0) rfl (.inl rfl) rfl rfl) (zak) rfl) rfl rfl) (zbt (zac (zai) (zac (zai) (zak) rfl) rfl)) rfl)))) (zaf (zau (zcf)) (zal)) (zal)) (zaf (zbb (ze9 (zd8 (zbp hu .notin (zbg (zad (i := 0) rfl (.inl rfl) rfl rfl) (zai) (fun _ _ => rfl)) (zbt (zac (zcj) (zac (zcj) (zac (zcj) (zac (zcj) (zak) rfl) rfl) rfl) rfl)) rfl) (zdw (zbp hu .ne (ze5 hu .eq (zcs rfl T.b_len (zac (zad (i := 0) rfl (.inl rfl) rfl rfl) (zak) rfl) rfl rfl) (zai) rfl) (ze5 hu .eq (zbg (zad (i := 0) rfl (.inl rfl) rfl rfl) (zai) (fun _ _ => rfl)) (zcj) rfl) rfl)))) (zaf (zau (zcf)) (zal)) (zal)) (zaf (zbb (ze9 (zd8 (zb9 (zby (zan 69 C hr rfl T.f__law_numbers (zac (zbt (zac (zbg (zad (i := 0) rfl (.inl rfl) rfl rfl) (zai) (fun _ _ => rfl)) (zak) rfl)) (zac (zai) (zac (zai) (zac (zaq false .sub (zad (i := 2) rfl (.inl rfl) rfl rfl) (zai)) (zak) rfl) rfl) rfl) rfl) rfl rfl rfl) (fun _ => rfl))) (zdw (zb9 (zby (zan 68 C hr rfl T.f__law_is_in (zac (zbg (zad (i := 0) rfl (.inl rfl) rfl rfl) (zi2 (zai)) (fun _ _ => rfl)) (zac (zai) (zac (zai) (zak) rfl) rfl) rfl) rfl rfl rfl) (fun _ => rfl)))))) (zaf (zau (zcf)) (zal)) (zal)) (zaf (zbb (zbp hu .eq (zbg (zad (i := 0) rfl (.inl rfl) rfl rfl) (zai) (fun _ _ => rfl)) (zcj) rfl) (zaf (zau (zan 69 C hr rfl T.f__law_numbers (zac (zbg (zad (i := 0) rfl (.inl rfl) rfl rfl) (zai) (fun _ _ => rfl)) (zac (zad (i := 1) rfl (.inr (.inl rfl)) rfl rfl) (zac (zai) (zac (zaq false .sub (zad (i := 1) rfl (.inr (.inl rfl)) rfl rfl) (zai)) (zak) rfl) rfl) rfl) rfl) rfl rfl rfl)) (zal)) (zal)) (zaf (zbb (zbp hu .eq (zbg (zad (i := 0) rfl (.inl rfl) rfl rfl) (zai) (fun _ _ => rfl)) (zcj) rfl) (zaf (zau (zan 68 C hr rfl T.f__law_is_in (zac (zbg (zad (i := 0) rfl (.inl rfl) rfl rfl) (zai) (fun _ _ => rfl)) (zac (zai) (zac (zaq false .sub (zad (i := 1) rfl (.inr (.inl rfl)) rfl rfl) (zai)) (zak) rfl) rfl) rfl) rfl rfl rfl)) (zal)) (zal)) (zaf (zbb (zb9 (zby (zan 68 C hr rfl T.f__law_is_in (zac (zbg (zad (i := 0) rfl (.inl rfl) rfl rfl) (zai) (fun _ _ => rfl)) (zac (zai) (zac (zaq false .sub (zad (i := 2) rfl (.inl rfl) rfl rfl) (zai)) (zak) rfl) rfl) rfl) rfl rfl rfl) (fun _ => rfl))) (zaf (zau (zcf)) (zal)) (zal)) (zaf (zbb (zbp hu .eq (zbg (zad (i := 0) rfl (.inl rfl) rfl rfl) (zai) (fun _ _ => rfl)) (zcj) rfl) (zaf (zau (zcf)) (zal)) (zal)) (zaf (zbb (ze9 (zd8 (zb9 (zby (zbz .tuple (fun _ h => nomatch h) (zbg (zad (i := 0) rfl (.inl rfl) rfl rfl) (zai) (fun _ _ => rfl)) rfl T.b_isinstance rfl T.b_tuple boot_tuple (by decide) rfl rfl) (fun _ => rfl))) (zdw (zbp hu .ne (zcs rfl T.b_len (zac (zbg (zad (i := 0) rfl (.inl rfl) rfl rfl) (zai) (fun _ _ => rfl)) (zak) rfl) rfl rfl) (zad (i := 1) rfl (.inr (.inl rfl)) rfl rfl) rfl)))) (zaf (zau (zcf)) (zal)) (zal)) (zaf (zau (ze5 hu .eq (zi3 false (zc6 (own := ["one"]) (bn := ["thing", "words", "places"]) (sc := zah zcq) (N := ["thing", "words", "places"]) rfl rfl rfl (by decide +kernel)) rfl (zgi (zbg (zad (i := 0) rfl (.inl rfl) rfl rfl) (zai) (fun _ _ => rfl))) (fun cl C0 fp s0 H0 => zat (i := 0) nd38 rfl (.inl rfl) (.inr rfl)) (fun cl C0 fp s0 H0 => zb9 (zby (zan 69 C hr rfl T.f__law_numbers (zac (zad (i := 0) rfl (.inl rfl) rfl rfl) (zac (zad (i := 2) rfl (.inr (.inl rfl)) rfl rfl) (zac (zai) (zac (zaq false .sub (zad (i := 2) rfl (.inr (.inl rfl)) rfl rfl) (zai)) (zak) rfl) rfl) rfl) rfl) rfl rfl rfl) (fun _ => rfl))) (fun cl C0 fp s0 H0 => zai) rfl (fun _ => rfl)) (zcy false (zak)) rfl)) (zal))))))))))
theorem zi8 : zbj ["thing"] ["thing"] (zah zcc) := ⟨rfl, rfl, rfl, nd39, rfl, by decide +kernel, by decide +kernel⟩
include T C in
theorem zj7 (hr : zbk n (A.deeper (envOfC "_law_is_machine" (zah zcc) s.heap.objs.size ad cdv))) :
    DSs fa (zca CX0 P w K mg base ["thing"] "_law_is_machine" (zah zcc) ad cdv A outer s H E).nox (zbc zcc) (zds c) := by
  have hu : (A.deeper (envOfC "_law_is_machine" (zah zcc) s.heap.objs.size ad cdv)).units + 100 < cLine := by have := hr.un; omega
  exact unbox (zaf (zbb (ze9 (zd8 (zb9 (zby (zbz .tuple (fun _ h => nomatch h) (zad (i := 0) rfl (.inr (.inl rfl)) rfl rfl) rfl T.b_isinstance rfl T.b_tuple boot_tuple (by decide) rfl rfl) (fun _ => rfl))) (zd8 (zbp hu .ne (zcs rfl T.b_len (zac (zad (i := 0) rfl (.inr (.inl rfl)) rfl rfl) (zak) rfl) rfl rfl) (zai) rfl) (zdw (zb9 (zby (zan 68 C hr rfl T.f__law_is_in (zac (zbg (zad (i := 0) rfl (.inr (.inl rfl)) rfl rfl) (zai) (fun _ _ => rfl)) (zac (zai) (zac (zai) (zak) rfl) rfl) rfl) rfl rfl rfl) (fun _ => rfl))))))) (zaf (zau (zcf)) (zal)) (zal)) (zaf (zbb (ze9 (zd8 (zb9 (zby (zan 68 C hr rfl T.f__law_is_in (zac (zbg (zad (i := 0) rfl (.inr (.inl rfl)) rfl rfl) (zai) (fun _ _ => rfl)) (zac (zai) (zac (zai) (zak) rfl) rfl) rfl) rfl rfl rfl) (fun _ => rfl))) (zd8 (zb9 (zby (zbz .tuple (fun _ h => nomatch h) (zbg (zad (i := 0) rfl (.inr (.inl rfl)) rfl rfl) (zai) (fun _ _ => rfl)) rfl T.b_isinstance rfl T.b_tuple boot_tuple (by decide) rfl rfl) (fun _ => rfl))) (zdw (zb9 (zr7 hu .le .le (zai) (zcs rfl T.b_len (zac (zbg (zad (i := 0) rfl (.inr (.inl rfl)) rfl rfl) (zai) (fun _ _ => rfl)) (zak) rfl) rfl rfl) (zai) rfl)))))) (zaf (zau (zcf)) (zal)) (zal)) (zaf (zau (ze5 hu .eq (zi3 false (zc6 (own := ["deed"]) (bn := ["thing"]) (sc := zah zcc) (N := ["thing"]) rfl rfl rfl (by decide +kernel)) rfl (zgi (zbg (zad (i := 0) rfl (.inr (.inl rfl)) rfl rfl) (zai) (fun _ _ => rfl))) (fun cl C0 fp s0 H0 => zat (i := 0) nd40 rfl (.inl rfl) (.inr rfl)) (fun cl C0 fp s0 H0 => zb9 (zby (zan 70 C hr rfl T.f__law_is_deed (zac (zad (i := 0) rfl (.inl rfl) rfl rfl) (zac (zbg (zad (i := 1) rfl (.inr (.inl rfl)) rfl rfl) (zai) (fun _ _ => rfl)) (zac (zbg (zad (i := 1) rfl (.inr (.inl rfl)) rfl rfl) (zai) (fun _ _ => rfl)) (zak) rfl) rfl) rfl) rfl rfl rfl) (fun _ => rfl))) (fun cl C0 fp s0 H0 => zai) rfl (fun _ => rfl)) (zcy false (zak)) rfl)) (zal))))
theorem zos : zbj ["pen", "thing", "deep", "kind", "pick", "number", "at", "odd", "some"] ["pen", "thing", "deep"] (zah zdz) := ⟨rfl, rfl, rfl, zjc, rfl, by decide +kernel, by decide +kernel⟩
include T C in
theorem zqa (hr : zbk n (A.deeper (envOfC "_law_bent" (zah zdz) s.heap.objs.size ad cdv))) :
    DSs fa (zca CX0 P w K mg base ["pen", "thing", "deep", "kind", "pick", "number", "at", "odd", "some"] "_law_bent" (zah zdz) ad cdv A outer s H E).nox (zbc zdz) (zh8 c) := by
  have hu : (A.deeper (envOfC "_law_bent" (zah zdz) s.heap.objs.size ad cdv)).units + 100 < cLine := by have := hr.un; omega
  exact unbox (zaf (za8 (zan 31 C hr rfl T.f__law_take (zac (zad (i := 0) rfl (.inl rfl) rfl rfl) (zac (zai) (zak) rfl) rfl) rfl rfl rfl) (zat (i := 3) zjc rfl (.inl rfl) (.inl rfl)) rfl rfl rfl) (zaf (za8 (zan 31 C hr rfl T.f__law_take (zac (zad (i := 0) rfl (.inl rfl) rfl rfl) (zac (zai) (zak) rfl) rfl) rfl rfl rfl) (zat (i := 4) zjc rfl (.inl rfl) (.inl rfl)) rfl rfl rfl) (zaf (za8 (zaq false .sub (zan 31 C hr rfl T.f__law_take (zac (zad (i := 0) rfl (.inl rfl) rfl rfl) (zac (zai) (zak) rfl) rfl) rfl rfl rfl) (zai)) (zat (i := 5) zjc rfl (.inl rfl) (.inl rfl)) rfl rfl rfl) (zaf (zbb (ze9 (zi4 (zby (zbz .tuple (fun _ h => nomatch h) (zad (i := 1) rfl (.inl rfl) rfl rfl) rfl T.b_isinstance rfl T.b_tuple boot_tuple (by decide) rfl rfl) (fun _ => rfl)) (zi4 (zbp hu .ne (zad (i := 1) rfl (.inl rfl) rfl rfl) (zbt (zak)) rfl) (zi4 (zbp hu .gt (zad (i := 2) rfl (.inl rfl) rfl rfl) (zai) rfl) (zl0 (zbp hu .gt (zad (i := 4) rfl (.inl rfl) rfl rfl) (zai) rfl)))))) (zaf (za8 (zan 31 C hr rfl T.f__law_take (zac (zad (i := 0) rfl (.inl rfl) rfl rfl) (zac (zcs rfl T.b_len (zac (zad (i := 1) rfl (.inl rfl) rfl rfl) (zak) rfl) rfl rfl) (zak) rfl) rfl) rfl rfl rfl) (zat (i := 6) zjc rfl (.inl rfl) (.inl rfl)) rfl rfl rfl) (zaf (zau (zaq false .add (zaq false .add (zf8 false false true (zad (i := 1) rfl (.inl rfl) rfl rfl) (ze7) (zd6 (zad (i := 6) rfl (.inl rfl) rfl rfl))) (zbt (zac (zan 72 C hr rfl T.f__law_bent (zac (zad (i := 0) rfl (.inl rfl) rfl rfl) (zac (zbg (zad (i := 1) rfl (.inl rfl) rfl rfl) (zad (i := 6) rfl (.inl rfl) rfl rfl) (fun _ _ => rfl)) (zac (zaq false .sub (zad (i := 2) rfl (.inl rfl) rfl rfl) (zai)) (zak) rfl) rfl) rfl) rfl rfl rfl) (zak) rfl))) (zf8 false true false (zad (i := 1) rfl (.inl rfl) rfl rfl) (zd6 (zaq false .add (zad (i := 6) rfl (.inl rfl) rfl rfl) (zai))) (ze7)))) (zal))) (zal)) (zaf (za8 (zcy false (zac (zku) (zac (zcf) (zac (zcf) (zac (zcj) (zac (zcj) (zac (zcj) (zac (zcj) (zac (zcj) (zac (zcj) (zac (zbt (zak)) (zac (zcy false (zak)) (zac (zaq false .pow (zai) (zai)) (zac (zi2 (zai)) (zac (zai) (zak) rfl) rfl) rfl) rfl) rfl) rfl) rfl) rfl) rfl) rfl) rfl) rfl) rfl) rfl)) (zat (i := 7) zjc rfl (.inl rfl) (.inl rfl)) rfl rfl rfl) (zaf (za8 (zaq false .add (zad (i := 7) rfl (.inl rfl) rfl rfl) (zcy false (zac (zai) (zac (zai) (zac (zbt (zac (zai) (zak) rfl)) (zac (zcy false (zac (zai) (zak) rfl)) (zac (zcj) (zac (zai) (zak) rfl) rfl) rfl) rfl) rfl) rfl))) (zat (i := 7) zjc rfl (.inl rfl) (.inl rfl)) rfl rfl rfl) (zaf (zbb (zby (zbz .tuple (fun _ h => nomatch h) (zad (i := 1) rfl (.inl rfl) rfl rfl) rfl T.b_isinstance rfl T.b_tuple boot_tuple (by decide) rfl rfl) (fun _ => rfl)) (zaf (za8 (zcy false (zac (zqe false rfl T.b_list (zac (zad (i := 1) rfl (.inl rfl) rfl rfl) (zak) rfl) rfl rfl) (zac (zaq false .add (zad (i := 1) rfl (.inl rfl) rfl rfl) (zf8 false false true (zad (i := 1) rfl (.inl rfl) rfl rfl) (ze7) (zd6 (zai)))) (zac (zf8 false false true (zad (i := 1) rfl (.inl rfl) rfl rfl) (ze7) (zd6 (zi2 (zai)))) (zac (xr_rev false (zad (i := 1) rfl (.inl rfl) rfl rfl)) (zac (zaq false .add (zad (i := 1) rfl (.inl rfl) rfl rfl) (zbt (zac (zad (i := 5) rfl (.inl rfl) rfl rfl) (zak) rfl))) (zac (zf8 false true false (zad (i := 1) rfl (.inl rfl) rfl rfl) (zd6 (zai)) (ze7)) (zac (zbt (zac (zad (i := 1) rfl (.inl rfl) rfl rfl) (zak) rfl)) (zak) rfl) rfl) rfl) rfl) rfl) rfl) rfl)) (zat (i := 8) zjc rfl (.inl rfl) (.inl rfl)) rfl rfl rfl) (zaf (zau (zbg (zaq false .add (zad (i := 8) rfl (.inl rfl) rfl rfl) (zcy false (zac (zbg (zad (i := 7) rfl (.inl rfl) rfl rfl) (zad (i := 4) rfl (.inl rfl) rfl rfl) (fun _ _ => rfl)) (zak) rfl))) (zad (i := 3) rfl (.inl rfl) rfl rfl) (fun _ _ => rfl))) (zal))) (zal)) (zaf (zbb (zby (zan 67 C hr rfl T.f__law_is_whole (zac (zad (i := 1) rfl (.inl rfl) rfl rfl) (zak) rfl) rfl rfl rfl) (fun _ => rfl)) (zaf (zau (zbg (zcy false (zac (zaq false .add (zad (i := 1) rfl (.inl rfl) rfl rfl) (zai)) (zac (zaq false .sub (zad (i := 1) rfl (.inl rfl) rfl rfl) (zai)) (zac (zaq false .sub (zai) (zad (i := 1) rfl (.inl rfl) rfl rfl)) (zac (zad (i := 5) rfl (.inl rfl) rfl rfl) (zac (zad (i := 5) rfl (.inl rfl) rfl rfl) (zac (ze5 hu .eq (zad (i := 1) rfl (.inl rfl) rfl rfl) (zai) rfl) (zac (zaq false .sub (zai) (zad (i := 1) rfl (.inl rfl) rfl rfl)) (zac (zbg (zad (i := 7) rfl (.inl rfl) rfl rfl) (zad (i := 4) rfl (.inl rfl) rfl rfl) (fun _ _ => rfl)) (zak) rfl) rfl) rfl) rfl) rfl) rfl) rfl) rfl)) (zad (i := 3) rfl (.inl rfl) rfl rfl) (fun _ _ => rfl))) (zal)) (zal)) (zaf (zbb (ze9 (zi4 (zby (zbz .str (fun _ h => nomatch h) (zad (i := 1) rfl (.inl rfl) rfl rfl) rfl T.b_isinstance rfl T.b_str boot_str (by decide) rfl rfl) (fun _ => rfl)) (zl0 (zbp hu .lt (zad (i := 3) rfl (.inl rfl) rfl rfl) (zai) rfl)))) (zaf (zau (zan 66 C hr rfl T.f__law_signed (zac (zad (i := 0) rfl (.inl rfl) rfl rfl) (zac (zad (i := 1) rfl (.inl rfl) rfl rfl) (zak) rfl) rfl) rfl rfl rfl)) (zal)) (zal)) (zaf (zau (zbg (zad (i := 7) rfl (.inl rfl) rfl rfl) (zad (i := 4) rfl (.inl rfl) rfl rfl) (fun _ _ => rfl))) (zal)))))))))))
theorem zsr : zbj ["script", "pen", "turn", "machine", "k", "thing", "idle", "some"] ["script"] (zah zhi) := ⟨rfl, rfl, rfl, zhq, rfl, by decide +kernel, by decide +kernel⟩
include T C in
theorem p_law (hr : zbk n (A.deeper (envOfC "law" (zah zhi) s.heap.objs.size ad cdv))) :
    DSs fa (zca CX0 P w K mg base ["script", "pen", "turn", "machine", "k", "thing", "idle", "some"] "law" (zah zhi) ad cdv A outer s H E).nox (zbc zhi) (zj5 c) := by
  have hu : (A.deeper (envOfC "law" (zah zhi) s.heap.objs.size ad cdv)).units + 100 < cLine := by have := hr.un; omega
  exact unbox (zaf (za8 (zan 29 C hr rfl T.f__law_open (zac (zad (i := 0) rfl (.inl rfl) rfl rfl) (zak) rfl) rfl rfl rfl) (zat (i := 1) zhq rfl (.inl rfl) (.inl rfl)) rfl rfl rfl) (zaf (zi1 PassesOwn.never rfl (zf2 (zai) rfl T.b_range rfl) (zat (i := 2) zhq rfl (.inl rfl) (.inl rfl)) (zaf (za8 (zan 34 C hr rfl T.f__law_machine (zac (zan 30 C hr rfl T.f__law_anew (zac (zad (i := 1) rfl (.inl rfl) rfl rfl) (zak) rfl) rfl rfl rfl) (zac (zai) (zac (zai) (zac (zai) (zak) rfl) rfl) rfl) rfl) rfl rfl rfl) (zat (i := 3) zhq rfl (.inl rfl) (.inl rfl)) rfl rfl rfl) (zaf (zbb (zwx (zan 12 C hr rfl T.f_is_machine (zac (zad (i := 3) rfl (.inl rfl) rfl rfl) (zak) rfl) rfl rfl rfl) (zcf) rfl) (zaf (zau (zcf)) (zal)) (zal)) (zaf (zi1 PassesOwn.never rfl (zf2 (zai) rfl T.b_range rfl) (zat (i := 4) zhq rfl (.inl rfl) (.inl rfl)) (zaf (za8 (zan 72 C hr rfl T.f__law_bent (zac (zad (i := 1) rfl (.inl rfl) rfl rfl) (zac (zad (i := 3) rfl (.inl rfl) rfl rfl) (zac (zai) (zak) rfl) rfl) rfl) rfl rfl rfl) (zat (i := 5) zhq rfl (.inl rfl) (.inl rfl)) rfl rfl rfl) (zaf (zbb (zbp hu .gt (zad (i := 4) rfl (.inl rfl) rfl rfl) (zai) rfl) (zaf (za8 (zan 72 C hr rfl T.f__law_bent (zac (zad (i := 1) rfl (.inl rfl) rfl rfl) (zac (zad (i := 5) rfl (.inl rfl) rfl rfl) (zac (zai) (zak) rfl) rfl) rfl) rfl rfl rfl) (zat (i := 5) zhq rfl (.inl rfl) (.inl rfl)) rfl rfl rfl) (zal)) (zal)) (zaf (zbb (zb9 (zby (zan 40 C hr rfl T.f__law_same (zac (zan 12 C hr rfl T.f_is_machine (zac (zad (i := 5) rfl (.inl rfl) rfl rfl) (zak) rfl) rfl rfl rfl) (zac (zan 71 C hr rfl T.f__law_is_machine (zac (zad (i := 5) rfl (.inl rfl) rfl rfl) (zak) rfl) rfl rfl rfl) (zak) rfl) rfl) rfl rfl rfl) (fun _ => rfl))) (zaf (zau (zcf)) (zal)) (zal)) (zal)))) (fun _ => rfl)) (zal)))) (fun _ => rfl)) (zaf (za8 (zbt (zac (zcj) (zac (zai) (zac (zai) (zac (zai) (zak) rfl) rfl) rfl) rfl)) (zat (i := 6) zhq rfl (.inl rfl) (.inl rfl)) rfl rfl rfl) (zaf (za8 (zcy false (zac (zku) (zac (zai) (zac (zcj) (zac (zbt (zak)) (zac (zcy false (zak)) (zac (zbt (zac (zai) (zac (zai) (zac (zbt (zak)) (zak) rfl) rfl) rfl)) (zac (zbt (zac (zai) (zac (zai) (zac (zaq false .mul (zbt (zac (zad (i := 6) rfl (.inl rfl) rfl rfl) (zak) rfl)) (zai)) (zak) rfl) rfl) rfl)) (zac (zbt (zac (zai) (zac (zai) (zac (zaq false .mul (zbt (zac (zad (i := 6) rfl (.inl rfl) rfl rfl) (zak) rfl)) (zai)) (zak) rfl) rfl) rfl)) (zac (zbt (zac (zai) (zac (zai) (zac (zbt (zac (zad (i := 6) rfl (.inl rfl) rfl rfl) (zak) rfl)) (zak) rfl) rfl) rfl)) (zak) rfl) rfl) rfl) rfl) rfl) rfl) rfl) rfl) rfl)) (zat (i := 7) zhq rfl (.inl rfl) (.inl rfl)) rfl rfl rfl) (zaf (za8 (zaq false .add (zad (i := 7) rfl (.inl rfl) rfl rfl) (zcy false (zac (zbt (zac (zai) (zac (zai) (zac (zbt (zac (zad (i := 6) rfl (.inl rfl) rfl rfl) (zak) rfl)) (zak) rfl) rfl) rfl)) (zac (zbt (zac (zai) (zac (zai) (zac (zbt (zac (zad (i := 6) rfl (.inl rfl) rfl rfl) (zak) rfl)) (zak) rfl) rfl) rfl)) (zac (zbt (zac (zai) (zac (zai) (zac (zbt (zac (zad (i := 6) rfl (.inl rfl) rfl rfl) (zak) rfl)) (zak) rfl) rfl) rfl)) (zac (zbt (zac (zcf) (zac (zai) (zac (zbt (zac (zad (i := 6) rfl (.inl rfl) rfl rfl) (zak) rfl)) (zak) rfl) rfl) rfl)) (zac (zbt (zac (zai) (zac (zai) (zac (zcy false (zac (zad (i := 6) rfl (.inl rfl) rfl rfl) (zak) rfl)) (zak) rfl) rfl) rfl)) (zak) rfl) rfl) rfl) rfl) rfl))) (zat (i := 7) zhq rfl (.inl rfl) (.inl rfl)) rfl rfl rfl) (zaf (zi1 PassesOwn.never rfl (zgi (zaq false .add (zad (i := 7) rfl (.inl rfl) rfl rfl) (zcy false (zac (zbt (zac (zai) (zac (zai) (zac (zad (i := 6) rfl (.inl rfl) rfl rfl) (zak) rfl) rfl) rfl)) (zak) rfl)))) (zat (i := 5) zhq rfl (.inl rfl) (.inl rfl)) (zaf (zbb (zb9 (zby (zan 40 C hr rfl T.f__law_same (zac (zan 12 C hr rfl T.f_is_machine (zac (zad (i := 5) rfl (.inl rfl) rfl rfl) (zak) rfl) rfl rfl rfl) (zac (zan 71 C hr rfl T.f__law_is_machine (zac (zad (i := 5) rfl (.inl rfl) rfl rfl) (zak) rfl) rfl rfl rfl) (zak) rfl) rfl) rfl rfl rfl) (fun _ => rfl))) (zaf (zau (zcf)) (zal)) (zal)) (zal)) (fun _ => rfl)) (zaf (zau (zcf)) (zal))))))))
end
end K01
namespace K01
open PySem PySem.Spec PyProof.Rows L2 LD
theorem zvm : ∀ ns : List Int, ns.length ≤ 63 -> ∃ M, zay Pg 40 73 [.frz (ns.map D.int)] [] = .ok (.bl true) M := law01 (by repeat' (first | rfl | constructor))
def faOf (l : List (Nat × Addr)) : Fa := fun i => l.lookup i
section
variable {P : Program} {w : World} {K : PySem.W.Frag} {mg : Str -> Option Value} {base : Heap} {f0 f1 f2 f3 f4 f5 f6 f7 f8 f9 f10 f11 f12 f28 f29 f30 f31 f64 f65 f66 f67 f40 f32 f33 f34 f68 f69 f70 f71 f72 f73 : Addr} {fd0 fd1 fd2 fd3 fd4 fd5 fd6 fd7 fd8 fd9 fd10 fd11 fd12 fd28 fd29 fd30 fd31 fd64 fd65 fd66 fd67 fd40 fd32 fd33 fd34 fd68 fd69 fd70 fd71 fd72 fd73 : FuncData}
theorem zi5 {F : FuncData} {z : List Str} (h : ∀ a : Value, bindArgs F ⟨[a], []⟩ = pure (z.zip [a])) : ∀ us : List Value, us.length = 1 -> bindArgs F ⟨us, []⟩ = pure (z.zip us) := LD.us1 h
theorem zhg {F : FuncData} {z : List Str} (h : ∀ a b : Value, bindArgs F ⟨[a, b], []⟩ = pure (z.zip [a, b])) : ∀ us : List Value, us.length = 2 -> bindArgs F ⟨us, []⟩ = pure (z.zip us) := LD.us2 h
theorem zh1 {F : FuncData} {z : List Str} (h : ∀ a b c : Value, bindArgs F ⟨[a, b, c], []⟩ = pure (z.zip [a, b, c])) : ∀ us : List Value, us.length = 3 -> bindArgs F ⟨us, []⟩ = pure (z.zip us) := LD.us3 h
theorem usb4 {F : FuncData} {z : List Str} (h : ∀ a b c d : Value, bindArgs F ⟨[a, b, c, d], []⟩ = pure (z.zip [a, b, c, d])) : ∀ us : List Value, us.length = 4 -> bindArgs F ⟨us, []⟩ = pure (z.zip us) := LD.us4 h
theorem mkf {h : Heap} (x : Str) (st : PySem.Stmt) (f c : Addr) (pm : Str) (t : Tok) (X : K.In h) (G : h.Ns mainGlobals mg) (a : PySem.W.nsIn K mainGlobals x = some (some (.ref f))) (l : K.lookup f = some ⟨.type "function", none, .func (PySem.W.fnOf x x (zhc st) (zbc st) (zah st) .none .none .none (.str pm t) none (.ref c) .none), #[]⟩) (e : PySem.W.codeIn K (.ref c) x = true) (k : PySem.W.keepIn K (.ref f) = true) : ∃ f fd, mg x = some (.ref f) /\ Fun K x x st f fd := LD.mk_fn X G a l e k
theorem mkd {k i j : Nat} {b : Call -> GS} {ps ns : List Str} {st : PySem.Stmt} {x : Str} {fa : Fa} {f : Addr} {fd : FuncData} (sc : zbj ns ps (zah st)) (hf : fa k = some f) (F : Fun K x x st f fd) (hb : Binds K fd ps []) (h1 : i = ps.length) (h2 : j = ns.length)
    (p : ∀ (c : Call) (n : Nat) (cdv : Value) (A : Around) (outer : List PySem.Env) (s : Shared) (H : Hp) (E : XK), (∀ f, zfp fa P w K mg base n f (c f)) -> zbk n (A.deeper (envOfC x (zah st) s.heap.objs.size f cdv)) -> DSs fa (zca CX0 P w K mg base ns x (zah st) f cdv A outer s H E).nox (zbc st) (b c)) : zn8 fa P w K mg base k ⟨i, j, b⟩ := ⟨f, fd, ps, ns, st, x, x, hf, F, hb, sc, h1, h2, p⟩
set_option maxHeartbeats 0 in
theorem zyo (F0 : Fun K "is_between" "is_between" zdm f0 fd0) (F1 : Fun K "is_word" "is_word" zet f1 fd1) (F2 : Fun K "is_place" "is_place" zef f2 fd2) (F3 : Fun K "is_cost" "is_cost" zey f3 fd3) (F4 : Fun K "is_tuple_of" "is_tuple_of" zc9 f4 fd4) (F5 : Fun K "is_table" "is_table" zdu f5 fd5) (F6 : Fun K "is_double_table" "is_double_table" zcb f6 fd6) (F7 : Fun K "is_turn" "is_turn" zeu f7 fd7) (F8 : Fun K "is_join" "is_join" zew f8 fd8) (F9 : Fun K "is_move" "is_move" zev f9 fd9) (F10 : Fun K "is_put" "is_put" zfh f10 fd10) (F11 : Fun K "is_deed" "is_deed" zex f11 fd11) (F12 : Fun K "is_machine" "is_machine" zc5 f12 fd12) (F28 : Fun K "_law_spread" "_law_spread" zda f28 fd28) (F29 : Fun K "_law_open" "_law_open" zdy f29 fd29) (F30 : Fun K "_law_anew" "_law_anew" zd0 f30 fd30) (F31 : Fun K "_law_take" "_law_take" zdx f31 fd31) (F64 : Fun K "_law_sign_but" "_law_sign_but" zcl f64 fd64) (F65 : Fun K "_law_any_sign" "_law_any_sign" zcw f65 fd65) (F66 : Fun K "_law_signed" "_law_signed" zdb f66 fd66) (F67 : Fun K "_law_is_whole" "_law_is_whole" zcv f67 fd67) (F40 : Fun K "_law_same" "_law_same" zdh f40 fd40) (F32 : Fun K "_law_tab" "_law_tab" zc3 f32 fd32) (F33 : Fun K "_law_deed" "_law_deed" zdi f33 fd33) (F34 : Fun K "_law_machine" "_law_machine" zc4 f34 fd34) (F68 : Fun K "_law_is_in" "_law_is_in" zdn f68 fd68) (F69 : Fun K "_law_numbers" "_law_numbers" zcp f69 fd69) (F70 : Fun K "_law_is_deed" "_law_is_deed" zcq f70 fd70) (F71 : Fun K "_law_is_machine" "_law_is_machine" zcc f71 fd71) (F72 : Fun K "_law_bent" "_law_bent" zdz f72 fd72) (F73 : Fun K "law" "law" zhi f73 fd73) (T : Txt K w mg (faOf [(0, f0), (1, f1), (2, f2), (3, f3), (4, f4), (5, f5), (6, f6), (7, f7), (8, f8), (9, f9), (10, f10), (11, f11), (12, f12), (28, f28), (29, f29), (30, f30), (31, f31), (64, f64), (65, f65), (66, f66), (67, f67), (40, f40), (32, f32), (33, f33), (34, f34), (68, f68), (69, f69), (70, f70), (71, f71), (72, f72), (73, f73)])) : ∀ f d, Pg f = some d -> zn8 (faOf [(0, f0), (1, f1), (2, f2), (3, f3), (4, f4), (5, f5), (6, f6), (7, f7), (8, f8), (9, f9), (10, f10), (11, f11), (12, f12), (28, f28), (29, f29), (30, f30), (31, f31), (64, f64), (65, f65), (66, f66), (67, f67), (40, f40), (32, f32), (33, f33), (34, f34), (68, f68), (69, f69), (70, f70), (71, f71), (72, f72), (73, f73)]) P w K mg base f d := fun f d e => by
  match f, e with
  | 0, e => cases e; exact mkd znk rfl F0 (F0.binds fun _ _ _ _ _ _ => zh1 fun _ _ _ => rfl) rfl rfl (zo2 T)
  | 1, e => cases e; exact mkd zq5 rfl F1 (F1.binds fun _ _ _ _ _ _ => zhg fun _ _ => rfl) rfl rfl (zs7 T)
  | 2, e => cases e; exact mkd zp4 rfl F2 (F2.binds fun _ _ _ _ _ _ => zhg fun _ _ => rfl) rfl rfl (zre T)
  | 3, e => cases e; exact mkd zra rfl F3 (F3.binds fun _ _ _ _ _ _ => zi5 fun _ => rfl) rfl rfl (ztc T)
  | 4, e => cases e; exact mkd zl5 rfl F4 (F4.binds fun _ _ _ _ _ _ => zhg fun _ _ => rfl) rfl rfl (znm T)
  | 5, e => cases e; exact mkd zp3 rfl F5 (F5.binds fun _ _ _ _ _ _ => zhg fun _ _ => rfl) rfl rfl (zrd T)
  | 6, e => cases e; exact mkd zi7 rfl F6 (F6.binds fun _ _ _ _ _ _ => zhg fun _ _ => rfl) rfl rfl (zj6 T)
  | 7, e => cases e; exact mkd zq6 rfl F7 (F7.binds fun _ _ _ _ _ _ => zh1 fun _ _ _ => rfl) rfl rfl (zs8 T)
  | 8, e => cases e; exact mkd zq8 rfl F8 (F8.binds fun _ _ _ _ _ _ => zh1 fun _ _ _ => rfl) rfl rfl (zta T)
  | 9, e => cases e; exact mkd zq7 rfl F9 (F9.binds fun _ _ _ _ _ _ => zh1 fun _ _ _ => rfl) rfl rfl (zs9 T)
  | 10, e => cases e; exact mkd zss rfl F10 (F10.binds fun _ _ _ _ _ _ => zh1 fun _ _ _ => rfl) rfl rfl (zva T)
  | 11, e => cases e; exact mkd zq9 rfl F11 (F11.binds fun _ _ _ _ _ _ => zh1 fun _ _ _ => rfl) rfl rfl (ztb T)
  | 12, e => cases e; exact mkd znj rfl F12 (F12.binds fun _ _ _ _ _ _ => zi5 fun _ => rfl) rfl rfl (zo1 T)
  | 13, e => cases e
  | 14, e => cases e
  | 15, e => cases e
  | 16, e => cases e
  | 17, e => cases e
  | 18, e => cases e
  | 19, e => cases e
  | 20, e => cases e
  | 21, e => cases e
  | 22, e => cases e
  | 23, e => cases e
  | 24, e => cases e
  | 25, e => cases e
  | 26, e => cases e
  | 27, e => cases e
  | 28, e => cases e; exact mkd zl6 rfl F28 (F28.binds fun _ _ _ _ _ _ => zhg fun _ _ => rfl) rfl rfl (znn T)
  | 29, e => cases e; exact mkd zoq rfl F29 (F29.binds fun _ _ _ _ _ _ => zi5 fun _ => rfl) rfl rfl (zp8 T)
  | 30, e => cases e; exact mkd zot rfl F30 (F30.binds fun _ _ _ _ _ _ => zi5 fun _ => rfl) rfl rfl (zqb T)
  | 31, e => cases e; exact mkd zoo rfl F31 (F31.binds fun _ _ _ _ _ _ => zhg fun _ _ => rfl) rfl rfl (zp6 T)
  | 32, e => cases e; exact mkd zp5 rfl F32 (F32.binds fun _ _ _ _ _ _ => zhg fun _ _ => rfl) rfl rfl (zrf T)
  | 33, e => cases e; exact mkd zor rfl F33 (F33.binds fun _ _ _ _ _ _ => zh1 fun _ _ _ => rfl) rfl rfl (zp9 T)
  | 34, e => cases e; exact mkd zk1 rfl F34 (F34.binds fun _ _ _ _ _ _ => usb4 fun _ _ _ _ => rfl) rfl rfl (zmd T)
  | 35, e => cases e
  | 36, e => cases e
  | 37, e => cases e
  | 38, e => cases e
  | 39, e => cases e
  | 40, e => cases e; exact mkd zop rfl F40 (F40.binds fun _ _ _ _ _ _ => zhg fun _ _ => rfl) rfl rfl (zp7 T)
  | 41, e => cases e
  | 42, e => cases e
  | 43, e => cases e
  | 44, e => cases e
  | 45, e => cases e
  | 46, e => cases e
  | 47, e => cases e
  | 48, e => cases e
  | 49, e => cases e
  | 50, e => cases e
  | 51, e => cases e
  | 52, e => cases e
  | 53, e => cases e
  | 54, e => cases e
  | 55, e => cases e
  | 56, e => cases e
  | 57, e => cases e
  | 58, e => cases e
  | 59, e => cases e
  | 60, e => cases e
  | 61, e => cases e
  | 62, e => cases e
  | 63, e => cases e
  | 64, e => cases e; exact mkd zkh rfl F64 (F64.binds fun _ _ _ _ _ _ => zhg fun _ _ => rfl) rfl rfl (zlc T)
  | 65, e => cases e; exact mkd zkj rfl F65 (F65.binds fun _ _ _ _ _ _ => zi5 fun _ => rfl) rfl rfl (zle T)
  | 66, e => cases e; exact mkd zl7 rfl F66 (F66.binds fun _ _ _ _ _ _ => zhg fun _ _ => rfl) rfl rfl (zno T)
  | 67, e => cases e; exact mkd zki rfl F67 (F67.binds fun _ _ _ _ _ _ => zi5 fun _ => rfl) rfl rfl (zld T)
  | 68, e => cases e; exact mkd znl rfl F68 (F68.binds fun _ _ _ _ _ _ => zh1 fun _ _ _ => rfl) rfl rfl (zo3 T)
  | 69, e => cases e; exact mkd zk0 rfl F69 (F69.binds fun _ _ _ _ _ _ => usb4 fun _ _ _ _ => rfl) rfl rfl (zmc T)
  | 70, e => cases e; exact mkd zk2 rfl F70 (F70.binds fun _ _ _ _ _ _ => zh1 fun _ _ _ => rfl) rfl rfl (zme T)
  | 71, e => cases e; exact mkd zi8 rfl F71 (F71.binds fun _ _ _ _ _ _ => zi5 fun _ => rfl) rfl rfl (zj7 T)
  | 72, e => cases e; exact mkd zos rfl F72 (F72.binds fun _ _ _ _ _ _ => zh1 fun _ _ _ => rfl) rfl rfl (zqa T)
  | 73, e => cases e; exact mkd zsr rfl F73 (F73.binds fun _ _ _ _ _ _ => zi5 fun _ => rfl) rfl rfl (p_law T)
  | k + 74, e => cases e
end
end K01
open PySem PySem.W PyProof.Rows
set_option maxRecDepth 100000 in
set_option maxHeartbeats 0 in
theorem PySem.Challenge.cw_leastdeeds_k01_what_is_a_machine_holds : PySem.Challenge.rw_leastdeeds_k01_what_is_a_machine.Holds := by
  w_on; o_law
  refine PySem.W.holds_open (r := K01.krow) (q := K01.kq) (loose := K01.zll) (Xt := fun s => PySem.W.xlAt K01.kq [] s && PySem.W.recOk (PySem.W.RowW.records K01.krow.toRowW) s) (XP := PySem.W.XL K01.kq []) (Yf := K01.kH.obs) (Ya := K01.kH.val) (YP := K01.kH.says) (N := 2292) K01.kleft K01.kH.of K01.kH.keeps (fun s e => PySem.W.xl_of s (Bool.and_eq_true_iff.mp e).1) PySem.W.XL.keeps (by rfl) (by rfl) (by rfl) (fun s e => PySem.W.recFacts_of (Bool.and_eq_true_iff.mp e).2) (by rfl) (by first | assumption | decide +kernel) (by decide +kernel) ⟨rfl, rfl, rfl, rfl, rfl, by decide +kernel⟩ ?hw ?hc
  case hw => w_witness2
  refine L2.zuk (l := PySem.Challenge.rw_leastdeeds_k01_what_is_a_machine) (n := 63) (k := 40) (x := "script") (CX := L2.CX0) (sp := LD.spLaw) rfl (by decide) rfl ⟨rfl, by decide, by decide⟩ (fun w h Y => PySem.W.kIn_of Y) ?F (fun K H a ns hl hO hS => ⟨a, ns, rfl, hS, hO, hl, fun _ => rfl⟩) (fun _ _ _ _ z => z)
  case F =>
    intro w mg fa h KX G hmg
    obtain ⟨f0, fd0, m0, F0⟩ := K01.mkf "is_between" K01.zdm 21 20 "leastdeeds.wholes" 187 KX G (by kernel_rfl) (by kernel_rfl) (by kernel_rfl) (by kernel_rfl)
    obtain ⟨f1, fd1, m1, F1⟩ := K01.mkf "is_word" K01.zet 28 27 "leastdeeds.machines" 198 KX G (by kernel_rfl) (by kernel_rfl) (by kernel_rfl) (by kernel_rfl)
    obtain ⟨f2, fd2, m2, F2⟩ := K01.mkf "is_place" K01.zef 35 34 "leastdeeds.machines" 198 KX G (by kernel_rfl) (by kernel_rfl) (by kernel_rfl) (by kernel_rfl)
    obtain ⟨f3, fd3, m3, F3⟩ := K01.mkf "is_cost" K01.zey 42 41 "leastdeeds.machines" 198 KX G (by kernel_rfl) (by kernel_rfl) (by kernel_rfl) (by kernel_rfl)
    obtain ⟨f4, fd4, m4, F4⟩ := K01.mkf "is_tuple_of" K01.zc9 49 48 "leastdeeds.machines" 198 KX G (by kernel_rfl) (by kernel_rfl) (by kernel_rfl) (by kernel_rfl)
    obtain ⟨f5, fd5, m5, F5⟩ := K01.mkf "is_table" K01.zdu 54 53 "leastdeeds.machines" 198 KX G (by kernel_rfl) (by kernel_rfl) (by kernel_rfl) (by kernel_rfl)
    obtain ⟨f6, fd6, m6, F6⟩ := K01.mkf "is_double_table" K01.zcb 59 58 "leastdeeds.machines" 198 KX G (by kernel_rfl) (by kernel_rfl) (by kernel_rfl) (by kernel_rfl)
    obtain ⟨f7, fd7, m7, F7⟩ := K01.mkf "is_turn" K01.zeu 66 65 "leastdeeds.machines" 198 KX G (by kernel_rfl) (by kernel_rfl) (by kernel_rfl) (by kernel_rfl)
    obtain ⟨f8, fd8, m8, F8⟩ := K01.mkf "is_join" K01.zew 73 72 "leastdeeds.machines" 198 KX G (by kernel_rfl) (by kernel_rfl) (by kernel_rfl) (by kernel_rfl)
    obtain ⟨f9, fd9, m9, F9⟩ := K01.mkf "is_move" K01.zev 80 79 "leastdeeds.machines" 198 KX G (by kernel_rfl) (by kernel_rfl) (by kernel_rfl) (by kernel_rfl)
    obtain ⟨f10, fd10, m10, F10⟩ := K01.mkf "is_put" K01.zfh 87 86 "leastdeeds.machines" 198 KX G (by kernel_rfl) (by kernel_rfl) (by kernel_rfl) (by kernel_rfl)
    obtain ⟨f11, fd11, m11, F11⟩ := K01.mkf "is_deed" K01.zex 95 94 "leastdeeds.machines" 198 KX G (by kernel_rfl) (by kernel_rfl) (by kernel_rfl) (by kernel_rfl)
    obtain ⟨f12, fd12, m12, F12⟩ := K01.mkf "is_machine" K01.zc5 100 99 "leastdeeds.machines" 198 KX G (by kernel_rfl) (by kernel_rfl) (by kernel_rfl) (by kernel_rfl)
    obtain ⟨f28, fd28, m28, F28⟩ := K01.mkf "_law_spread" K01.zda 107 106 "law_leastdeeds_k01_what_is_a_machine" 328 KX G (by kernel_rfl) (by kernel_rfl) (by kernel_rfl) (by kernel_rfl)
    obtain ⟨f29, fd29, m29, F29⟩ := K01.mkf "_law_open" K01.zdy 114 113 "law_leastdeeds_k01_what_is_a_machine" 328 KX G (by kernel_rfl) (by kernel_rfl) (by kernel_rfl) (by kernel_rfl)
    obtain ⟨f30, fd30, m30, F30⟩ := K01.mkf "_law_anew" K01.zd0 121 120 "law_leastdeeds_k01_what_is_a_machine" 328 KX G (by kernel_rfl) (by kernel_rfl) (by kernel_rfl) (by kernel_rfl)
    obtain ⟨f31, fd31, m31, F31⟩ := K01.mkf "_law_take" K01.zdx 128 127 "law_leastdeeds_k01_what_is_a_machine" 328 KX G (by kernel_rfl) (by kernel_rfl) (by kernel_rfl) (by kernel_rfl)
    obtain ⟨f64, fd64, m64, F64⟩ := K01.mkf "_law_sign_but" K01.zcl 133 132 "law_leastdeeds_k01_what_is_a_machine" 328 KX G (by kernel_rfl) (by kernel_rfl) (by kernel_rfl) (by kernel_rfl)
    obtain ⟨f65, fd65, m65, F65⟩ := K01.mkf "_law_any_sign" K01.zcw 140 139 "law_leastdeeds_k01_what_is_a_machine" 328 KX G (by kernel_rfl) (by kernel_rfl) (by kernel_rfl) (by kernel_rfl)
    obtain ⟨f66, fd66, m66, F66⟩ := K01.mkf "_law_signed" K01.zdb 147 146 "law_leastdeeds_k01_what_is_a_machine" 328 KX G (by kernel_rfl) (by kernel_rfl) (by kernel_rfl) (by kernel_rfl)
    obtain ⟨f67, fd67, m67, F67⟩ := K01.mkf "_law_is_whole" K01.zcv 154 153 "law_leastdeeds_k01_what_is_a_machine" 328 KX G (by kernel_rfl) (by kernel_rfl) (by kernel_rfl) (by kernel_rfl)
    obtain ⟨f40, fd40, m40, F40⟩ := K01.mkf "_law_same" K01.zdh 159 158 "law_leastdeeds_k01_what_is_a_machine" 328 KX G (by kernel_rfl) (by kernel_rfl) (by kernel_rfl) (by kernel_rfl)
    obtain ⟨f32, fd32, m32, F32⟩ := K01.mkf "_law_tab" K01.zc3 164 163 "law_leastdeeds_k01_what_is_a_machine" 328 KX G (by kernel_rfl) (by kernel_rfl) (by kernel_rfl) (by kernel_rfl)
    obtain ⟨f33, fd33, m33, F33⟩ := K01.mkf "_law_deed" K01.zdi 169 168 "law_leastdeeds_k01_what_is_a_machine" 328 KX G (by kernel_rfl) (by kernel_rfl) (by kernel_rfl) (by kernel_rfl)
    obtain ⟨f34, fd34, m34, F34⟩ := K01.mkf "_law_machine" K01.zc4 176 175 "law_leastdeeds_k01_what_is_a_machine" 328 KX G (by kernel_rfl) (by kernel_rfl) (by kernel_rfl) (by kernel_rfl)
    obtain ⟨f68, fd68, m68, F68⟩ := K01.mkf "_law_is_in" K01.zdn 183 182 "law_leastdeeds_k01_what_is_a_machine" 328 KX G (by kernel_rfl) (by kernel_rfl) (by kernel_rfl) (by kernel_rfl)
    obtain ⟨f69, fd69, m69, F69⟩ := K01.mkf "_law_numbers" K01.zcp 188 187 "law_leastdeeds_k01_what_is_a_machine" 328 KX G (by kernel_rfl) (by kernel_rfl) (by kernel_rfl) (by kernel_rfl)
    obtain ⟨f70, fd70, m70, F70⟩ := K01.mkf "_law_is_deed" K01.zcq 193 192 "law_leastdeeds_k01_what_is_a_machine" 328 KX G (by kernel_rfl) (by kernel_rfl) (by kernel_rfl) (by kernel_rfl)
    obtain ⟨f71, fd71, m71, F71⟩ := K01.mkf "_law_is_machine" K01.zcc 198 197 "law_leastdeeds_k01_what_is_a_machine" 328 KX G (by kernel_rfl) (by kernel_rfl) (by kernel_rfl) (by kernel_rfl)
    obtain ⟨f72, fd72, m72, F72⟩ := K01.mkf "_law_bent" K01.zdz 205 204 "law_leastdeeds_k01_what_is_a_machine" 328 KX G (by kernel_rfl) (by kernel_rfl) (by kernel_rfl) (by kernel_rfl)
    obtain ⟨f73, fd73, m73, F73⟩ := K01.mkf "law" K01.zhi 212 211 "law_leastdeeds_k01_what_is_a_machine" 328 KX G (by kernel_rfl) (by kernel_rfl) (by kernel_rfl) (by kernel_rfl)
    have z_all : mg "all" = none := LD.zfi KX G (by kernel_rfl)
    have z_bool : mg "bool" = none := LD.zfi KX G (by kernel_rfl)
    have z_enumerate : mg "enumerate" = none := LD.zfi KX G (by kernel_rfl)
    have z_int : mg "int" = none := LD.zfi KX G (by kernel_rfl)
    have z_isinstance : mg "isinstance" = none := LD.zfi KX G (by kernel_rfl)
    have z_len : mg "len" = none := LD.zfi KX G (by kernel_rfl)
    have z_list : mg "list" = none := LD.zfi KX G (by kernel_rfl)
    have z_range : mg "range" = none := LD.zfi KX G (by kernel_rfl)
    have z_str : mg "str" = none := LD.zfi KX G (by kernel_rfl)
    have z_tuple : mg "tuple" = none := LD.zfi KX G (by kernel_rfl)
    have z_zip : mg "zip" = none := LD.zfi KX G (by kernel_rfl)
    have c_LEAST_WORDS : ∃ t, mg "LEAST_WORDS" = some (.int 2 t) := LD.zje (t := 200) KX G (by kernel_rfl)
    have c_MOST_COST : ∃ t, mg "MOST_COST" = some (.int 3 t) := LD.zje (t := 208) KX G (by kernel_rfl)
    have c_MOST_DEEDS : ∃ t, mg "MOST_DEEDS" = some (.int 6 t) := LD.zje (t := 206) KX G (by kernel_rfl)
    have c_MOST_PLACES : ∃ t, mg "MOST_PLACES" = some (.int 2 t) := LD.zje (t := 204) KX G (by kernel_rfl)
    have c_MOST_WORDS : ∃ t, mg "MOST_WORDS" = some (.int 4 t) := LD.zje (t := 202) KX G (by kernel_rfl)
    have b7 := LD.zlk (x := "is_turn") (f := 66) KX G (by kernel_rfl)
    have b8 := LD.zlk (x := "is_join") (f := 73) KX G (by kernel_rfl)
    have b9 := LD.zlk (x := "is_move") (f := 80) KX G (by kernel_rfl)
    have b10 := LD.zlk (x := "is_put") (f := 87) KX G (by kernel_rfl)
    have d_SORTS := LD.zx8 (x := "SORTS") (P := w.params) (fa := K01.faOf [(0, f0), (1, f1), (2, f2), (3, f3), (4, f4), (5, f5), (6, f6), (7, f7), (8, f8), (9, f9), (10, f10), (11, f11), (12, f12), (28, f28), (29, f29), (30, f30), (31, f31), (64, f64), (65, f65), (66, f66), (67, f67), (40, f40), (32, f32), (33, f33), (34, f34), (68, f68), (69, f69), (70, f70), (71, f71), (72, f72), (73, f73)]) (fs := LD.zdd) (ad := 88) (es := #[{ hash := PySem.PyData.keyHash w.params (PySem.Str.ofString "turn"), key := PySem.Value.str (PySem.Str.ofString "turn") 302, val := PySem.Value.ref 66 }, { hash := PySem.PyData.keyHash w.params (PySem.Str.ofString "join"), key := PySem.Value.str (PySem.Str.ofString "join") 303, val := PySem.Value.ref 73 }, { hash := PySem.PyData.keyHash w.params (PySem.Str.ofString "move"), key := PySem.Value.str (PySem.Str.ofString "move") 304, val := PySem.Value.ref 80 }, { hash := PySem.PyData.keyHash w.params (PySem.Str.ofString "put"), key := PySem.Value.str (PySem.Str.ofString "put") 305, val := PySem.Value.ref 87 }]) (n := 4) KX G (by kernel_rfl) (by kernel_rfl) (by exact LD.zjw (LD.zjw (LD.zjw (LD.zjw (LD.kd_nil))))) (by decide +kernel) (by decide) (by exact LD.zix rfl m7 b7 (LD.zix rfl m8 b8 (LD.zix rfl m9 b9 (LD.zix rfl m10 b10 (.nil)))))
    have T := K01.Txt.mk (w := w) (fa := K01.faOf [(0, f0), (1, f1), (2, f2), (3, f3), (4, f4), (5, f5), (6, f6), (7, f7), (8, f8), (9, f9), (10, f10), (11, f11), (12, f12), (28, f28), (29, f29), (30, f30), (31, f31), (64, f64), (65, f65), (66, f66), (67, f67), (40, f40), (32, f32), (33, f33), (34, f34), (68, f68), (69, f69), (70, f70), (71, f71), (72, f72), (73, f73)]) (z_all) (z_bool) (z_enumerate) (z_int) (z_isinstance) (z_len) (z_list) (z_range) (z_str) (z_tuple) (z_zip) (c_LEAST_WORDS) (c_MOST_COST) (c_MOST_DEEDS) (c_MOST_PLACES) (c_MOST_WORDS) (d_SORTS) (fun ad h => by cases h; exact m0) (fun ad h => by cases h; exact m1) (fun ad h => by cases h; exact m2) (fun ad h => by cases h; exact m3) (fun ad h => by cases h; exact m4) (fun ad h => by cases h; exact m5) (fun ad h => by cases h; exact m6) (fun ad h => by cases h; exact m11) (fun ad h => by cases h; exact m12) (fun ad h => by cases h; exact m28) (fun ad h => by cases h; exact m29) (fun ad h => by cases h; exact m30) (fun ad h => by cases h; exact m31) (fun ad h => by cases h; exact m32) (fun ad h => by cases h; exact m33) (fun ad h => by cases h; exact m34) (fun ad h => by cases h; exact m40) (fun ad h => by cases h; exact m64) (fun ad h => by cases h; exact m65) (fun ad h => by cases h; exact m66) (fun ad h => by cases h; exact m67) (fun ad h => by cases h; exact m68) (fun ad h => by cases h; exact m69) (fun ad h => by cases h; exact m70) (fun ad h => by cases h; exact m71) (fun ad h => by cases h; exact m72)
    have e := hmg.symm.trans m73
    cases e
    exact ⟨fd73, fun s v => by
      obtain ⟨oc, od, kV, doc, pm, an, cdv, ct, osl, rfl, lk, hcd⟩ := F73.ex
      exact .of_eq rfl, fun base _ _ => LD.law_fn (n := 39) (f := 73) (K01.zyo F0 F1 F2 F3 F4 F5 F6 F7 F8 F9 F10 F11 F12 F28 F29 F30 F31 F64 F65 F66 F67 F40 F32 F33 F34 F68 F69 F70 F71 F72 F73 T) K01.zvm rfl F73 K01.zsr rfl fun c n cdv A outer s H E C hr => K01.p_law T c n cdv A outer s H E C hr⟩
