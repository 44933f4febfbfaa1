import PyProof.Rows.All
import Wide.All
import OpenK.AllK
import Wide.FinOn
import Lean
import PyProof.EqAt
import PyProof.EqKinds
import PyProof.TupleCall
import PyProof.StrOps
import PyProof.MeetsStr
import PyProof.StrLawsJoin
import PySem.Challenge.RW_leastdeeds_k08_refusals_apart
set_option Elab.async false
set_option linter.all false
set_option maxRecDepth 100000
set_option maxHeartbeats 0
noncomputable section
namespace HD
open PySem PySem.W
def zfc (tb:String->Option Builtin) (p:Program) (w:World) (n0:Nat) (ann:Option Value):Nat->SharedT->Thread->Option SharedT
  | 0,_,_=>none
  | n + 1, s, t => match through t with
    | true=>some s
    | false => match stepOk n0 ann t with
      | false=>none
      | true => match stepT (denote tb) p w s t with
        | some (s',t')=>zfc tb p w n0 ann n s' t'
        | none=>none
theorem zjk {tb:String->Option Builtin}{p:Program}{w:World}{n0:Nat}{ann:Option Value}:∀ {n:Nat}{s s':SharedT}{t:Thread},zfc tb p w n0 ann n s t=some s'->topRun tb p w n0 ann n s.abs t=some s'.abs
  | 0,_,_,_,h=>by cases h
  | n + 1, s, s', t, h => by
    unfold zfc at h
    unfold topRun
    cases he:through t with
    | true=>rw [he] at h;cases h;rfl
    | false =>
      rw [he] at h
      cases hk:stepOk n0 ann t with
      | false=>rw [hk] at h;cases h
      | true =>
        rw [hk] at h
        cases hs:stepT (denote tb) p w s t with
        | none=>rw [hs] at h;cases h
        | some r=>obtain ⟨s2,t2⟩:=r;rw [hs] at h;rw [stepT_spec hs];exact zjk h
def treeOf:List Obj->Nat->BT->BT
  | [],_,t=>t
  | o::r,n,t=>treeOf r (n+1) (t.ins n o)
def zn0 (P:Params) (os:OsState):SharedT:=⟨treeOf (boot_heap P).objs.toList 0 .nil,(boot_heap P).objs.toList.length,(boot_heap P).life,#[],boot_drawn,boot_toks,os⟩
theorem boot_abs (P:Params) (os:OsState):(zn0 P os).abs=⟨boot_heap P,#[],boot_drawn,boot_toks,os⟩:=by kernel_rfl
def znp (p q:Program) (loose:List Str) (Xt:Shared->Bool) (g0:Bool) (h0:Heap) {α:Type} (Yf:Shared->α) (s:Shared):=
  ((staticsOk (importedModules p.main.body) h0 s.heap&&namesBound p s.heap&&gensDone s&&laidKept h0 s.heap),openSeen q loose (importedModules p.main.body) Xt g0 s,Yf s)
theorem zlu {p q:Program}{loose:List Str}{Xt:Shared->Bool}{α:Type}{Yf:Shared->α}{Ya:World->α}{N:Nat}{g0:Bool}{m0:Nat}{ann:Option Value}
    (open_:∀ w:World,(fencedOpening treeTable p w N).map (fun s=>(s.heap,s.gens,s.drawn,s.toks))=some (boot_heap w.params,Array.mk [],boot_drawn,boot_toks))
    (size:∀ w:World,((boot_heap w.params).isNs mainGlobals&&(Array.mk ([]:List GenState)).size==0,(boot_heap w.params).objs.size,(boot_heap w.params).nsMap mainGlobals "__annotations__")=(true,m0,ann))
    (run:∀ (w:World) (os:OsState),(zfc treeTable p w m0 ann N (zn0 w.params os) (topStub p)).map (fun s=>znp p q loose Xt g0 (boot_heap w.params) Yf s.abs)=some (true,openGood q loose,Ya w)):LeftO p q loose Xt Yf Ya N g0:=fun w=>by
  obtain ⟨⟨h,gs,d,k,os⟩,e,e'⟩:=Option.map_eq_some_iff.mp (open_ w)
  obtain ⟨rfl,rfl,rfl,rfl⟩:h=boot_heap w.params /\ gs=Array.mk [] /\ d=boot_drawn /\ k=boot_toks:=by simpa using e'
  obtain ⟨z1,z2,z3⟩:_ /\ _ /\ _:=by simpa only [Prod.mk.injEq] using size w
  obtain ⟨s1,r,l⟩:=Option.map_eq_some_iff.mp (run w os)
  obtain ⟨l1,l2,l3⟩:_ /\ _ /\ _:=by simpa only [znp,Prod.mk.injEq] using l
  have r:=zjk r
  rw [boot_abs] at r
  have t:topFrom treeTable p w N ⟨boot_heap w.params,Array.mk [],boot_drawn,boot_toks,os⟩=some s1.abs:=by
    unfold topFrom
    dsimp only
    rw [z1,z2,z3,r]
    show (match staticsOk (importedModules p.main.body) (boot_heap w.params) s1.abs.heap&&namesBound p s1.abs.heap&&gensDone s1.abs&&laidKept (boot_heap w.params) s1.abs.heap with | true=>_ | false=>_)=_
    rw [l1]
  unfold openEnds
  rw [e]
  show (topFrom treeTable p w N _).map _=_
  rw [t]
  exact congrArg some (Prod.ext l2 l3)
end HD
namespace K08
open PySem
def zft (s:PySem.Stmt):PySem.Stmt:=match s with
  | .ClassDef _ _ _ (b::_) _ _ _ _ _ _ _=>b
  | _=>s
def zbp (i:Nat):PySem.Stmt:=PySem.Challenge.pw_leastdeeds_k08_refusals_apart.main.body.getD i (.Pass ⟨0,0,0,0⟩)
def zdy (s:PySem.Stmt):PySem.Arguments:=match s with
  | .FunctionDef _ a _ _ _ _ _ _ _ _=>a
  | _=>⟨[],[],none,[],[],none,[]⟩
def zdx (s:PySem.Stmt):List PySem.Stmt:=match s with
  | .FunctionDef _ _ b _ _ _ _ _ _ _=>b
  | _=>[]
def zdd (s:PySem.Stmt):PySem.Scope:=match s with
  | .FunctionDef _ _ _ _ _ _ sc _ _ _=>sc
  | _=>{kind:=.function,names:=[],isGenerator:=false,isCoroutine:=false}
def kh:PySem.Params->PySem.W.Frag:=fun P=>[(2,{cls:=.none,data:=.dict #[]}),
  (3,{cls:=.type "dict",data:=.dict #[⟨PySem.PyData.keyHash P "__name__",.str "__name__" 165,.str "law_leastdeeds_k08_refusals_apart" 458⟩,⟨PySem.PyData.keyHash P "__doc__",.str "__doc__" 166,.none⟩,⟨PySem.PyData.keyHash P "__package__",.str "__package__" 167,.none⟩,⟨PySem.PyData.keyHash P "__loader__",.str "__loader__" 168,.builtin "__main__.__loader__#opaque"⟩,⟨PySem.PyData.keyHash P "__spec__",.str "__spec__" 169,.none⟩,⟨PySem.PyData.keyHash P "__annotations__",.str "__annotations__" 170,.ref 6⟩,⟨PySem.PyData.keyHash P "__builtins__",.str "__builtins__" 171,.ref 4⟩,⟨PySem.PyData.keyHash P "__file__",.str "__file__" 173,.str "/claim/cut.py" 172⟩,⟨PySem.PyData.keyHash P "__cached__",.str "__cached__" 174,.none⟩,⟨PySem.PyData.keyHash P "DeedError",.str "DeedError" 206,.ref 24⟩,⟨PySem.PyData.keyHash P "NoRow",.str "NoRow" 231,.ref 44⟩,⟨PySem.PyData.keyHash P "NoRule",.str "NoRule" 256,.ref 63⟩,⟨PySem.PyData.keyHash P "NoStep",.str "NoStep" 281,.ref 82⟩,⟨PySem.PyData.keyHash P "NoMachine",.str "NoMachine" 297,.ref 94⟩,⟨PySem.PyData.keyHash P "TooLong",.str "TooLong" 313,.ref 106⟩,⟨PySem.PyData.keyHash P "NoWord",.str "NoWord" 329,.ref 118⟩,⟨PySem.PyData.keyHash P "NoWork",.str "NoWork" 345,.ref 130⟩,⟨PySem.PyData.keyHash P "NoBound",.str "NoBound" 361,.ref 142⟩,⟨PySem.PyData.keyHash P "TooMany",.str "TooMany" 377,.ref 154⟩,⟨PySem.PyData.keyHash P "NoPlace",.str "NoPlace" 393,.ref 166⟩,⟨PySem.PyData.keyHash P "NoDeed",.str "NoDeed" 409,.ref 178⟩,⟨PySem.PyData.keyHash P "Nothing",.str "Nothing" 425,.ref 190⟩,⟨PySem.PyData.keyHash P "NoText",.str "NoText" 441,.ref 202⟩,⟨PySem.PyData.keyHash P "NoLine",.str "NoLine" 457,.ref 214⟩,⟨PySem.PyData.keyHash P "_law_spread",.str "_law_spread" 471,.ref 223⟩,⟨PySem.PyData.keyHash P "_law_open",.str "_law_open" 481,.ref 230⟩,⟨PySem.PyData.keyHash P "_law_anew",.str "_law_anew" 488,.ref 237⟩,⟨PySem.PyData.keyHash P "_law_take",.str "_law_take" 499,.ref 244⟩,⟨PySem.PyData.keyHash P "_law_sign_but",.str "_law_sign_but" 505,.ref 249⟩,⟨PySem.PyData.keyHash P "_law_any_sign",.str "_law_any_sign" 512,.ref 256⟩,⟨PySem.PyData.keyHash P "_law_same",.str "_law_same" 518,.ref 261⟩,⟨PySem.PyData.keyHash P "_law_refusal",.str "_law_refusal" 527,.ref 268⟩,⟨PySem.PyData.keyHash P "law",.str "law" 533,.ref 273⟩] 33}),
  (23,{cls:=.type "dict",data:=.dict #[⟨PySem.PyData.keyHash P "__module__",.str "__module__" 196,.str "leastdeeds.errors" 187⟩,⟨PySem.PyData.keyHash P "__firstlineno__",.str "__firstlineno__" 200,.int 2 199⟩,⟨PySem.PyData.keyHash P "__static_attributes__",.str "__static_attributes__" 201,.ref 22⟩,⟨PySem.PyData.keyHash P "__weakref__",.str "__weakref__" 203,.ref 25⟩,⟨PySem.PyData.keyHash P "__doc__",.str "__doc__" 204,.none⟩] 3}),
  (24,{cls:=.type "type",data:=.cls {name:="DeedError",bases:=[.type "ValueError"],mro:=[.ref 24,.type "ValueError",.type "Exception",.type "BaseException",.type "object"],ns:=23,qualname:="DeedError",subclasses:=[.ref 44,.ref 63,.ref 82,.ref 94,.ref 106,.ref 118,.ref 130,.ref 142,.ref 154,.ref 166,.ref 178,.ref 190,.ref 202,.ref 214]},slots:=#[some (.ref 15),none,some (.str "DeedError" 189),some (.str "DeedError" 197),some (.builtin "ValueError.__new__"),some (.bool true)]}),
  (40,{cls:=.type "code",data:=.fields #[.str "__init__" 219,.str "NoRow.__init__" 220,.str "/claim/cut.py" 221,.int 6 0,.int 2 0,.int 0 0,.int 0 0,.int 3 0,.ref 35,.bool true,.int 181 0,.ref 36,.none,.ref 37,.ref 38,.ref 39,.int 224 0,.int 6 0,.str "/claim/cut.py" 225]}),
  (41,{cls:=.type "function",data:=.func {name:="__init__",qualname:="NoRow.__init__",params:=zdy (zft (zbp 2)),body:=PySem.FuncBody.stmts (zdx (zft (zbp 2))),scope:=zdd (zft (zbp 2)),globals:=3,closure:=[],defaults:=.none,kwdefaults:=.none,pyModule:=.str "leastdeeds.errors" 187,code:=.ref 40}}),
  (43,{cls:=.type "dict",data:=.dict #[⟨PySem.PyData.keyHash P "__module__",.str "__module__" 214,.str "leastdeeds.errors" 187⟩,⟨PySem.PyData.keyHash P "__firstlineno__",.str "__firstlineno__" 218,.int 4 217⟩,⟨PySem.PyData.keyHash P "__init__",.str "__init__" 226,.ref 41⟩,⟨PySem.PyData.keyHash P "__static_attributes__",.str "__static_attributes__" 228,.ref 42⟩,⟨PySem.PyData.keyHash P "__doc__",.str "__doc__" 229,.none⟩] 2}),
  (44,{cls:=.type "type",data:=.cls {name:="NoRow",bases:=[.ref 24],mro:=[.ref 44,.ref 24,.type "ValueError",.type "Exception",.type "BaseException",.type "object"],ns:=43,qualname:="NoRow"},slots:=#[some (.ref 28),none,some (.str "NoRow" 207),some (.str "NoRow" 215),some (.builtin "ValueError.__new__"),some (.bool true)]}),
  (59,{cls:=.type "code",data:=.fields #[.str "__init__" 244,.str "NoRule.__init__" 245,.str "/claim/cut.py" 246,.int 11 0,.int 2 0,.int 0 0,.int 0 0,.int 3 0,.ref 54,.bool true,.int 181 0,.ref 55,.none,.ref 56,.ref 57,.ref 58,.int 249 0,.int 11 0,.str "/claim/cut.py" 250]}),
  (60,{cls:=.type "function",data:=.func {name:="__init__",qualname:="NoRule.__init__",params:=zdy (zft (zbp 3)),body:=PySem.FuncBody.stmts (zdx (zft (zbp 3))),scope:=zdd (zft (zbp 3)),globals:=3,closure:=[],defaults:=.none,kwdefaults:=.none,pyModule:=.str "leastdeeds.errors" 187,code:=.ref 59}}),
  (62,{cls:=.type "dict",data:=.dict #[⟨PySem.PyData.keyHash P "__module__",.str "__module__" 239,.str "leastdeeds.errors" 187⟩,⟨PySem.PyData.keyHash P "__firstlineno__",.str "__firstlineno__" 243,.int 9 242⟩,⟨PySem.PyData.keyHash P "__init__",.str "__init__" 251,.ref 60⟩,⟨PySem.PyData.keyHash P "__static_attributes__",.str "__static_attributes__" 253,.ref 61⟩,⟨PySem.PyData.keyHash P "__doc__",.str "__doc__" 254,.none⟩] 2}),
  (63,{cls:=.type "type",data:=.cls {name:="NoRule",bases:=[.ref 24],mro:=[.ref 63,.ref 24,.type "ValueError",.type "Exception",.type "BaseException",.type "object"],ns:=62,qualname:="NoRule"},slots:=#[some (.ref 47),none,some (.str "NoRule" 232),some (.str "NoRule" 240),some (.builtin "ValueError.__new__"),some (.bool true)]}),
  (78,{cls:=.type "code",data:=.fields #[.str "__init__" 269,.str "NoStep.__init__" 270,.str "/claim/cut.py" 271,.int 16 0,.int 2 0,.int 0 0,.int 0 0,.int 3 0,.ref 73,.bool true,.int 181 0,.ref 74,.none,.ref 75,.ref 76,.ref 77,.int 274 0,.int 16 0,.str "/claim/cut.py" 275]}),
  (79,{cls:=.type "function",data:=.func {name:="__init__",qualname:="NoStep.__init__",params:=zdy (zft (zbp 4)),body:=PySem.FuncBody.stmts (zdx (zft (zbp 4))),scope:=zdd (zft (zbp 4)),globals:=3,closure:=[],defaults:=.none,kwdefaults:=.none,pyModule:=.str "leastdeeds.errors" 187,code:=.ref 78}}),
  (81,{cls:=.type "dict",data:=.dict #[⟨PySem.PyData.keyHash P "__module__",.str "__module__" 264,.str "leastdeeds.errors" 187⟩,⟨PySem.PyData.keyHash P "__firstlineno__",.str "__firstlineno__" 268,.int 14 267⟩,⟨PySem.PyData.keyHash P "__init__",.str "__init__" 276,.ref 79⟩,⟨PySem.PyData.keyHash P "__static_attributes__",.str "__static_attributes__" 278,.ref 80⟩,⟨PySem.PyData.keyHash P "__doc__",.str "__doc__" 279,.none⟩] 2}),
  (82,{cls:=.type "type",data:=.cls {name:="NoStep",bases:=[.ref 24],mro:=[.ref 82,.ref 24,.type "ValueError",.type "Exception",.type "BaseException",.type "object"],ns:=81,qualname:="NoStep"},slots:=#[some (.ref 66),none,some (.str "NoStep" 257),some (.str "NoStep" 265),some (.builtin "ValueError.__new__"),some (.bool true)]}),
  (93,{cls:=.type "dict",data:=.dict #[⟨PySem.PyData.keyHash P "__module__",.str "__module__" 289,.str "leastdeeds.errors" 187⟩,⟨PySem.PyData.keyHash P "__firstlineno__",.str "__firstlineno__" 293,.int 19 292⟩,⟨PySem.PyData.keyHash P "__static_attributes__",.str "__static_attributes__" 294,.ref 92⟩,⟨PySem.PyData.keyHash P "__doc__",.str "__doc__" 295,.none⟩] 2}),
  (94,{cls:=.type "type",data:=.cls {name:="NoMachine",bases:=[.ref 24],mro:=[.ref 94,.ref 24,.type "ValueError",.type "Exception",.type "BaseException",.type "object"],ns:=93,qualname:="NoMachine"},slots:=#[some (.ref 85),none,some (.str "NoMachine" 282),some (.str "NoMachine" 290),some (.builtin "ValueError.__new__"),some (.bool true)]}),
  (105,{cls:=.type "dict",data:=.dict #[⟨PySem.PyData.keyHash P "__module__",.str "__module__" 305,.str "leastdeeds.errors" 187⟩,⟨PySem.PyData.keyHash P "__firstlineno__",.str "__firstlineno__" 309,.int 21 308⟩,⟨PySem.PyData.keyHash P "__static_attributes__",.str "__static_attributes__" 310,.ref 104⟩,⟨PySem.PyData.keyHash P "__doc__",.str "__doc__" 311,.none⟩] 2}),
  (106,{cls:=.type "type",data:=.cls {name:="TooLong",bases:=[.ref 24],mro:=[.ref 106,.ref 24,.type "ValueError",.type "Exception",.type "BaseException",.type "object"],ns:=105,qualname:="TooLong"},slots:=#[some (.ref 97),none,some (.str "TooLong" 298),some (.str "TooLong" 306),some (.builtin "ValueError.__new__"),some (.bool true)]}),
  (117,{cls:=.type "dict",data:=.dict #[⟨PySem.PyData.keyHash P "__module__",.str "__module__" 321,.str "leastdeeds.errors" 187⟩,⟨PySem.PyData.keyHash P "__firstlineno__",.str "__firstlineno__" 325,.int 23 324⟩,⟨PySem.PyData.keyHash P "__static_attributes__",.str "__static_attributes__" 326,.ref 116⟩,⟨PySem.PyData.keyHash P "__doc__",.str "__doc__" 327,.none⟩] 2}),
  (118,{cls:=.type "type",data:=.cls {name:="NoWord",bases:=[.ref 24],mro:=[.ref 118,.ref 24,.type "ValueError",.type "Exception",.type "BaseException",.type "object"],ns:=117,qualname:="NoWord"},slots:=#[some (.ref 109),none,some (.str "NoWord" 314),some (.str "NoWord" 322),some (.builtin "ValueError.__new__"),some (.bool true)]}),
  (129,{cls:=.type "dict",data:=.dict #[⟨PySem.PyData.keyHash P "__module__",.str "__module__" 337,.str "leastdeeds.errors" 187⟩,⟨PySem.PyData.keyHash P "__firstlineno__",.str "__firstlineno__" 341,.int 25 340⟩,⟨PySem.PyData.keyHash P "__static_attributes__",.str "__static_attributes__" 342,.ref 128⟩,⟨PySem.PyData.keyHash P "__doc__",.str "__doc__" 343,.none⟩] 2}),
  (130,{cls:=.type "type",data:=.cls {name:="NoWork",bases:=[.ref 24],mro:=[.ref 130,.ref 24,.type "ValueError",.type "Exception",.type "BaseException",.type "object"],ns:=129,qualname:="NoWork"},slots:=#[some (.ref 121),none,some (.str "NoWork" 330),some (.str "NoWork" 338),some (.builtin "ValueError.__new__"),some (.bool true)]}),
  (141,{cls:=.type "dict",data:=.dict #[⟨PySem.PyData.keyHash P "__module__",.str "__module__" 353,.str "leastdeeds.errors" 187⟩,⟨PySem.PyData.keyHash P "__firstlineno__",.str "__firstlineno__" 357,.int 27 356⟩,⟨PySem.PyData.keyHash P "__static_attributes__",.str "__static_attributes__" 358,.ref 140⟩,⟨PySem.PyData.keyHash P "__doc__",.str "__doc__" 359,.none⟩] 2}),
  (142,{cls:=.type "type",data:=.cls {name:="NoBound",bases:=[.ref 24],mro:=[.ref 142,.ref 24,.type "ValueError",.type "Exception",.type "BaseException",.type "object"],ns:=141,qualname:="NoBound"},slots:=#[some (.ref 133),none,some (.str "NoBound" 346),some (.str "NoBound" 354),some (.builtin "ValueError.__new__"),some (.bool true)]}),
  (153,{cls:=.type "dict",data:=.dict #[⟨PySem.PyData.keyHash P "__module__",.str "__module__" 369,.str "leastdeeds.errors" 187⟩,⟨PySem.PyData.keyHash P "__firstlineno__",.str "__firstlineno__" 373,.int 29 372⟩,⟨PySem.PyData.keyHash P "__static_attributes__",.str "__static_attributes__" 374,.ref 152⟩,⟨PySem.PyData.keyHash P "__doc__",.str "__doc__" 375,.none⟩] 2}),
  (154,{cls:=.type "type",data:=.cls {name:="TooMany",bases:=[.ref 24],mro:=[.ref 154,.ref 24,.type "ValueError",.type "Exception",.type "BaseException",.type "object"],ns:=153,qualname:="TooMany"},slots:=#[some (.ref 145),none,some (.str "TooMany" 362),some (.str "TooMany" 370),some (.builtin "ValueError.__new__"),some (.bool true)]}),
  (165,{cls:=.type "dict",data:=.dict #[⟨PySem.PyData.keyHash P "__module__",.str "__module__" 385,.str "leastdeeds.errors" 187⟩,⟨PySem.PyData.keyHash P "__firstlineno__",.str "__firstlineno__" 389,.int 31 388⟩,⟨PySem.PyData.keyHash P "__static_attributes__",.str "__static_attributes__" 390,.ref 164⟩,⟨PySem.PyData.keyHash P "__doc__",.str "__doc__" 391,.none⟩] 2}),
  (166,{cls:=.type "type",data:=.cls {name:="NoPlace",bases:=[.ref 24],mro:=[.ref 166,.ref 24,.type "ValueError",.type "Exception",.type "BaseException",.type "object"],ns:=165,qualname:="NoPlace"},slots:=#[some (.ref 157),none,some (.str "NoPlace" 378),some (.str "NoPlace" 386),some (.builtin "ValueError.__new__"),some (.bool true)]}),
  (177,{cls:=.type "dict",data:=.dict #[⟨PySem.PyData.keyHash P "__module__",.str "__module__" 401,.str "leastdeeds.errors" 187⟩,⟨PySem.PyData.keyHash P "__firstlineno__",.str "__firstlineno__" 405,.int 33 404⟩,⟨PySem.PyData.keyHash P "__static_attributes__",.str "__static_attributes__" 406,.ref 176⟩,⟨PySem.PyData.keyHash P "__doc__",.str "__doc__" 407,.none⟩] 2}),
  (178,{cls:=.type "type",data:=.cls {name:="NoDeed",bases:=[.ref 24],mro:=[.ref 178,.ref 24,.type "ValueError",.type "Exception",.type "BaseException",.type "object"],ns:=177,qualname:="NoDeed"},slots:=#[some (.ref 169),none,some (.str "NoDeed" 394),some (.str "NoDeed" 402),some (.builtin "ValueError.__new__"),some (.bool true)]}),
  (189,{cls:=.type "dict",data:=.dict #[⟨PySem.PyData.keyHash P "__module__",.str "__module__" 417,.str "leastdeeds.errors" 187⟩,⟨PySem.PyData.keyHash P "__firstlineno__",.str "__firstlineno__" 421,.int 35 420⟩,⟨PySem.PyData.keyHash P "__static_attributes__",.str "__static_attributes__" 422,.ref 188⟩,⟨PySem.PyData.keyHash P "__doc__",.str "__doc__" 423,.none⟩] 2}),
  (190,{cls:=.type "type",data:=.cls {name:="Nothing",bases:=[.ref 24],mro:=[.ref 190,.ref 24,.type "ValueError",.type "Exception",.type "BaseException",.type "object"],ns:=189,qualname:="Nothing"},slots:=#[some (.ref 181),none,some (.str "Nothing" 410),some (.str "Nothing" 418),some (.builtin "ValueError.__new__"),some (.bool true)]}),
  (201,{cls:=.type "dict",data:=.dict #[⟨PySem.PyData.keyHash P "__module__",.str "__module__" 433,.str "leastdeeds.errors" 187⟩,⟨PySem.PyData.keyHash P "__firstlineno__",.str "__firstlineno__" 437,.int 37 436⟩,⟨PySem.PyData.keyHash P "__static_attributes__",.str "__static_attributes__" 438,.ref 200⟩,⟨PySem.PyData.keyHash P "__doc__",.str "__doc__" 439,.none⟩] 2}),
  (202,{cls:=.type "type",data:=.cls {name:="NoText",bases:=[.ref 24],mro:=[.ref 202,.ref 24,.type "ValueError",.type "Exception",.type "BaseException",.type "object"],ns:=201,qualname:="NoText"},slots:=#[some (.ref 193),none,some (.str "NoText" 426),some (.str "NoText" 434),some (.builtin "ValueError.__new__"),some (.bool true)]}),
  (213,{cls:=.type "dict",data:=.dict #[⟨PySem.PyData.keyHash P "__module__",.str "__module__" 449,.str "leastdeeds.errors" 187⟩,⟨PySem.PyData.keyHash P "__firstlineno__",.str "__firstlineno__" 453,.int 39 452⟩,⟨PySem.PyData.keyHash P "__static_attributes__",.str "__static_attributes__" 454,.ref 212⟩,⟨PySem.PyData.keyHash P "__doc__",.str "__doc__" 455,.none⟩] 2}),
  (214,{cls:=.type "type",data:=.cls {name:="NoLine",bases:=[.ref 24],mro:=[.ref 214,.ref 24,.type "ValueError",.type "Exception",.type "BaseException",.type "object"],ns:=213,qualname:="NoLine"},slots:=#[some (.ref 205),none,some (.str "NoLine" 442),some (.str "NoLine" 450),some (.builtin "ValueError.__new__"),some (.bool true)]}),
  (222,{cls:=.type "code",data:=.fields #[.str "_law_spread" 460,.str "_law_spread" 461,.str "/claim/cut.py" 462,.int 42 0,.int 2 0,.int 0 0,.int 0 0,.int 3 0,.ref 217,.bool true,.int 181 0,.ref 218,.none,.ref 219,.ref 220,.ref 221,.int 469 0,.int 42 0,.str "/claim/cut.py" 470]}),
  (223,{cls:=.type "function",data:=.func {name:="_law_spread",qualname:="_law_spread",params:=zdy (zbp 17),body:=PySem.FuncBody.stmts (zdx (zbp 17)),scope:=zdd (zbp 17),globals:=3,closure:=[],defaults:=.none,kwdefaults:=.none,pyModule:=.str "law_leastdeeds_k08_refusals_apart" 458,code:=.ref 222}}),
  (229,{cls:=.type "code",data:=.fields #[.str "_law_open" 472,.str "_law_open" 473,.str "/claim/cut.py" 474,.int 51 0,.int 1 0,.int 0 0,.int 0 0,.int 3 0,.ref 224,.bool true,.int 181 0,.ref 225,.none,.ref 226,.ref 227,.ref 228,.int 479 0,.int 51 0,.str "/claim/cut.py" 480]}),
  (230,{cls:=.type "function",data:=.func {name:="_law_open",qualname:="_law_open",params:=zdy (zbp 18),body:=PySem.FuncBody.stmts (zdx (zbp 18)),scope:=zdd (zbp 18),globals:=3,closure:=[],defaults:=.none,kwdefaults:=.none,pyModule:=.str "law_leastdeeds_k08_refusals_apart" 458,code:=.ref 229}}),
  (236,{cls:=.type "code",data:=.fields #[.str "_law_anew" 482,.str "_law_anew" 483,.str "/claim/cut.py" 484,.int 56 0,.int 1 0,.int 0 0,.int 0 0,.int 3 0,.ref 231,.bool true,.int 181 0,.ref 232,.none,.ref 233,.ref 234,.ref 235,.int 486 0,.int 56 0,.str "/claim/cut.py" 487]}),
  (237,{cls:=.type "function",data:=.func {name:="_law_anew",qualname:="_law_anew",params:=zdy (zbp 19),body:=PySem.FuncBody.stmts (zdx (zbp 19)),scope:=zdd (zbp 19),globals:=3,closure:=[],defaults:=.none,kwdefaults:=.none,pyModule:=.str "law_leastdeeds_k08_refusals_apart" 458,code:=.ref 236}}),
  (243,{cls:=.type "code",data:=.fields #[.str "_law_take" 489,.str "_law_take" 490,.str "/claim/cut.py" 491,.int 59 0,.int 2 0,.int 0 0,.int 0 0,.int 3 0,.ref 238,.bool true,.int 181 0,.ref 239,.none,.ref 240,.ref 241,.ref 242,.int 497 0,.int 59 0,.str "/claim/cut.py" 498]}),
  (244,{cls:=.type "function",data:=.func {name:="_law_take",qualname:="_law_take",params:=zdy (zbp 20),body:=PySem.FuncBody.stmts (zdx (zbp 20)),scope:=zdd (zbp 20),globals:=3,closure:=[],defaults:=.none,kwdefaults:=.none,pyModule:=.str "law_leastdeeds_k08_refusals_apart" 458,code:=.ref 243}}),
  (248,{cls:=.type "code",data:=.fields #[.str "_law_sign_but" 500,.str "_law_sign_but" 501,.str "/claim/cut.py" 502,.int 72 0,.int 2 0,.int 0 0,.int 0 0,.int 3 0,.ref 245,.bool true,.int 181 0,.ref 246,.none,.none,.none,.ref 247,.int 503 0,.int 72 0,.str "/claim/cut.py" 504]}),
  (249,{cls:=.type "function",data:=.func {name:="_law_sign_but",qualname:="_law_sign_but",params:=zdy (zbp 21),body:=PySem.FuncBody.stmts (zdx (zbp 21)),scope:=zdd (zbp 21),globals:=3,closure:=[],defaults:=.none,kwdefaults:=.none,pyModule:=.str "law_leastdeeds_k08_refusals_apart" 458,code:=.ref 248}}),
  (255,{cls:=.type "code",data:=.fields #[.str "_law_any_sign" 506,.str "_law_any_sign" 507,.str "/claim/cut.py" 508,.int 77 0,.int 1 0,.int 0 0,.int 0 0,.int 3 0,.ref 250,.bool true,.int 181 0,.ref 251,.none,.ref 252,.ref 253,.ref 254,.int 510 0,.int 77 0,.str "/claim/cut.py" 511]}),
  (256,{cls:=.type "function",data:=.func {name:="_law_any_sign",qualname:="_law_any_sign",params:=zdy (zbp 22),body:=PySem.FuncBody.stmts (zdx (zbp 22)),scope:=zdd (zbp 22),globals:=3,closure:=[],defaults:=.none,kwdefaults:=.none,pyModule:=.str "law_leastdeeds_k08_refusals_apart" 458,code:=.ref 255}}),
  (260,{cls:=.type "code",data:=.fields #[.str "_law_same" 513,.str "_law_same" 514,.str "/claim/cut.py" 515,.int 79 0,.int 2 0,.int 0 0,.int 0 0,.int 3 0,.ref 257,.bool true,.int 181 0,.ref 258,.none,.none,.none,.ref 259,.int 516 0,.int 79 0,.str "/claim/cut.py" 517]}),
  (261,{cls:=.type "function",data:=.func {name:="_law_same",qualname:="_law_same",params:=zdy (zbp 23),body:=PySem.FuncBody.stmts (zdx (zbp 23)),scope:=zdd (zbp 23),globals:=3,closure:=[],defaults:=.none,kwdefaults:=.none,pyModule:=.str "law_leastdeeds_k08_refusals_apart" 458,code:=.ref 260}}),
  (267,{cls:=.type "code",data:=.fields #[.str "_law_refusal" 519,.str "_law_refusal" 520,.str "/claim/cut.py" 521,.int 93 0,.int 1 0,.int 0 0,.int 0 0,.int 3 0,.ref 262,.bool true,.int 181 0,.ref 263,.none,.ref 264,.ref 265,.ref 266,.int 525 0,.int 93 0,.str "/claim/cut.py" 526]}),
  (268,{cls:=.type "function",data:=.func {name:="_law_refusal",qualname:="_law_refusal",params:=zdy (zbp 24),body:=PySem.FuncBody.stmts (zdx (zbp 24)),scope:=zdd (zbp 24),globals:=3,closure:=[],defaults:=.none,kwdefaults:=.none,pyModule:=.str "law_leastdeeds_k08_refusals_apart" 458,code:=.ref 267}}),
  (272,{cls:=.type "code",data:=.fields #[.str "law" 528,.str "law" 529,.str "/claim/cut.py" 530,.int 109 0,.int 1 0,.int 0 0,.int 0 0,.int 3 0,.ref 269,.bool true,.int 181 0,.ref 270,.none,.none,.none,.ref 271,.int 531 0,.int 109 0,.str "/claim/cut.py" 532]}),
  (273,{cls:=.type "function",data:=.func {name:="law",qualname:="law",params:=zdy (zbp 25),body:=PySem.FuncBody.stmts (zdx (zbp 25)),scope:=zdd (zbp 25),globals:=3,closure:=[],defaults:=.none,kwdefaults:=.none,pyModule:=.str "law_leastdeeds_k08_refusals_apart" 458,code:=.ref 272}})]
def kas:List PySem.Addr:=[2,3,23,24,40,41,43,44,59,60,62,63,78,79,81,82,93,94,105,106,117,118,129,130,141,142,153,154,165,166,177,178,189,190,201,202,213,214,222,223,229,230,236,237,243,244,248,249,255,256,260,261,267,268,272,273]
theorem kase:∀ P,kas=(kh P).map (·.1):=fun _=>by kernel_rfl
def kq:PySem.Program:=PySem.W.view PySem.Challenge.pw_leastdeeds_k08_refusals_apart [1,2,3,4,5,6,7,8,9,10,11,12,13,14,15,17,18,19,20,21,22,23,24,25]
abbrev kH:PySem.W.Hook:=PySem.W.kHook kh kas kase
def zh5:List PySem.Str:=[]
abbrev krow:=PySem.Challenge.rw_leastdeeds_k08_refusals_apart.row
abbrev kX:PySem.Shared->Bool:=fun s=>PySem.W.xlAt kq [] s&&PySem.W.recOk (PySem.W.RowW.records krow.toRowW) s
def kR (w:PySem.World) (os:PySem.OsState):=(HD.zfc PySem.treeTable PySem.Challenge.pw_leastdeeds_k08_refusals_apart w 11 (some (.ref 6)) 7222 (HD.zn0 w.params os) (PySem.W.topStub PySem.Challenge.pw_leastdeeds_k08_refusals_apart)).map fun s=>HD.znp PySem.Challenge.pw_leastdeeds_k08_refusals_apart kq zh5 kX true (PySem.W.boot_heap w.params) (fun s=>kas.map s.heap.get?) s.abs
def kG (w:PySem.World):=some (true,PySem.W.openGood kq zh5,(kh w.params).map fun p=>some p.2)
theorem kRs:kR=kR:=rfl
theorem kGs:kG=kG:=rfl
name_quick kq08 for kR by kRs
name_quick kg08 for kG by kGs
theorem kl0:∀ (w:PySem.World) (os:PySem.OsState),PySem.W.Fast.kq08 w os=PySem.W.Fast.kg08 w:=fun w os=>by kernel_rfl
theorem kl:∀ (w:PySem.World) (os:PySem.OsState),kR w os=kG w:=fun w os=>by
  rw [PySem.W.Fast.kq08_eq,PySem.W.Fast.kg08_eq]
  exact kl0 w os
theorem kleft:PySem.W.LeftO krow.prog kq zh5 kX kH.obs kH.val 7222:=HD.zlu (m0:=11) (ann:=some (.ref 6)) (PySem.W.boot_open (by rfl) (by decide) (fun _=>rfl)) (fun w=>by kernel_rfl) kl
end K08
namespace L2
open PySem PySem.Spec PyProof.Rows
abbrev Key:=Sum Int Str
def keyIs:Key->Value->Bool
  | .inl k,v=>Value.isInt k v
  | .inr x,v=>Value.isStrOf x v
def keyH (w:World):Key->Int
  | .inl k=>hashInt k
  | .inr x=>hashStr w x
theorem zcd:∀ {k:Key}{v:Value},keyIs k v=true->(∃ i t,k=Sum.inl i /\ v=Value.int i t) \/ (∃ x t,k=Sum.inr x /\ v=Value.str x t)
  | .inl i, v, h => by
    obtain ⟨t,e⟩:=Value.isInt_shape (k:=i) (v:=v) h
    exact .inl ⟨i,t,rfl,e⟩
  | .inr x, v, h => by
    obtain ⟨t,e⟩:=Value.isStrOf_shape (x:=x) (v:=v) h
    exact .inr ⟨x,t,rfl,e⟩
theorem key_ll (a b:Int):decide ((Sum.inl a:Key)=Sum.inl b)=(a==b):=by
  by_cases e:a=b
  · subst e;simp
  · have h:¬ (Sum.inl a:Key)=Sum.inl b:=fun q=>e (Sum.inl.inj q)
    rw [decide_eq_false h]
    exact (beq_eq_false_iff_ne.mpr e).symm
theorem key_rr (a b:Str):decide ((Sum.inr a:Key)=Sum.inr b)=decide (a=b):=by
  by_cases e:a=b
  · subst e;simp
  · have h:¬ (Sum.inr a:Key)=Sum.inr b:=fun q=>e (Sum.inr.inj q)
    rw [decide_eq_false h,decide_eq_false e]
theorem key_lr (a:Int) (b:Str):decide ((Sum.inl a:Key)=Sum.inr b)=false:=decide_eq_false (fun q=>nomatch q)
theorem key_rl (a:Str) (b:Int):decide ((Sum.inr a:Key)=Sum.inl b)=false:=decide_eq_false (fun q=>nomatch q)
def ziw (prog:Program) (w:World):PySem.KeyKind prog w Key where
  is:=keyIs
  hash:=keyH w
  inj:=fun v a b ha hb=>by
    rcases zcd ha with ⟨i,t,rfl,rfl⟩ | ⟨x,t,rfl,rfl⟩
    · rcases zcd hb with ⟨j,u,rfl,e⟩ | ⟨y,u,rfl,e⟩
      · injection e with e1 _;rw [e1]
      · exact nomatch e
    · rcases zcd hb with ⟨j,u,rfl,e⟩ | ⟨y,u,rfl,e⟩
      · exact nomatch e
      · injection e with e1 _;rw [e1]
  byValue:=fun k v h=>by
    rcases zcd h with ⟨i,t,rfl,rfl⟩ | ⟨x,t,rfl,rfl⟩<;>rfl
  pyHash:=fun hv h=>by
    rcases zcd hv with ⟨i,t,rfl,rfl⟩ | ⟨x,t,rfl,rfl⟩
    · exact wpAny_pyHash_int h
    · exact wpAny_pyHash_str h
  eqBool:=fun hu hv h=>by
    rcases zcd hu with ⟨i,t,rfl,rfl⟩ | ⟨x,t,rfl,rfl⟩
    · rcases zcd hv with ⟨j,u,rfl,rfl⟩ | ⟨y,u,rfl,rfl⟩
      · rw [key_ll] at h;exact wpAny_eqBool_int h
      · rw [key_lr] at h;exact SeqAt.EqAt.int_str i t y u _ _ _ _ h
    · rcases zcd hv with ⟨j,u,rfl,rfl⟩ | ⟨y,u,rfl,rfl⟩
      · rw [key_rl] at h;exact SeqAt.EqAt.str_int x t j u _ _ _ _ h
      · rw [key_rr] at h;exact wpAny_eqBool_str h
  «strs»:=fun k x t v h=>by
    rcases zcd h with ⟨i,u,rfl,e⟩ | ⟨y,u,rfl,e⟩
    · exact nomatch e
    · injection e with e1 _
      subst e1
      cases v<;>rfl
end L2
namespace L2
open PySem PySem.Spec PyProof.Rows
inductive V where
  | non | bl (b:Bool) | int (i:Int) | str (x:Str) | byt (b:Array UInt8) | flt (b:UInt64) | ref (a:Addr) | ty (n:String)
  deriving DecidableEq
def RelV:V->Value->Prop
  | .non,u=>u=Value.none
  | .bl b,u=>u=Value.bool b
  | .int i,u=>∃ t,u=Value.int i t
  | .str x,u=>∃ t,u=Value.str x t
  | .byt b,u=>∃ t,u=Value.bytes b t
  | .flt b,u=>∃ t,u=Value.float b t
  | .ref a,u=>u=Value.ref a
  | .ty n,u=>u=Value.type n
abbrev Vals:List V->List Value->Prop:=Paired RelV
theorem Vals.length {xs:List V}{us:List Value} (r:Vals xs us):xs.length=us.length:=Paired.length r
theorem Vals.get:∀ {xs:List V}{us:List Value}{i:Nat}{x:V},Vals xs us->xs[i]?=some x->∃ u,us[i]?=some u /\ RelV x u
  | _,_,_,_,.nil,e=>by simp at e
  | _,_,0,_,.cons r _,e=>by simp at e;subst e;exact ⟨_,rfl,r⟩
  | _, _, i + 1, x, .cons _ t, e => by
    obtain ⟨u,h1,h2⟩:=Vals.get (i:=i) (x:=x) t (by simpa using e)
    exact ⟨u,by simpa using h1,h2⟩
theorem Vals.set {x:V}{u:Value} (r:RelV x u):∀ {xs:List V}{us:List Value} (i:Nat),Vals xs us->Vals (xs.set i x) (us.set i u)
  | _,_,_,.nil=>.nil
  | _,_,0,.cons _ t=>.cons r t
  | _,_,i+1,.cons q t=>.cons q (Vals.set r i t)
theorem Vals.append:∀ {xs ys:List V}{us ws:List Value},Vals xs us->Vals ys ws->Vals (xs++ys) (us++ws)
  | _,_,_,_,.nil,s=>s
  | _,_,_,_,.cons r t,s=>.cons r (Vals.append t s)
theorem Vals.take:∀ {xs:List V}{us:List Value} (n:Nat),Vals xs us->Vals (xs.take n) (us.take n)
  | _,_,0,_=>.nil
  | _,_,_+1,.nil=>.nil
  | _,_,n+1,.cons r t=>.cons r (Vals.take n t)
theorem Vals.drop:∀ {xs:List V}{us:List Value} (n:Nat),Vals xs us->Vals (xs.drop n) (us.drop n)
  | _,_,0,r=>r
  | _,_,_+1,.nil=>.nil
  | _,_,n+1,.cons _ t=>Vals.drop n t
def RelO:Option V->Option Value->Prop
  | some v,some u=>RelV v u
  | none,none=>True
  | _,_=>False
def KV {κ:Type}:List (κ×V)->List (κ×Value)->Prop:=Paired fun (p:κ×V) (q:κ×Value)=>p.1=q.1 /\ RelV p.2 q.2
def kV:Key->V
  | .inl i=>.int i
  | .inr x=>.str x
inductive HO where
  | lst (xs:List V)
  | tup (xs:List V)
  | dK (kvs:List (Key×V)) | dT (kvs:List (List Key×V))
  | set (S:Int->Bool) (n:Nat)
  | ins (C dx:Addr) (fs:List (Str×V))
  | own (x:Addr)
  | xd (fs:List (Str×V))
  | met (f x:Addr)
  | rng (lo hi:Int)
  | frz (o:Obj) (u:HO)
  | tbl (ps:Array Value)
  | ext (φ:Heap->Prop)
abbrev Hp:=Addr->Option HO
def upd (H:Hp) (a:Addr) (o:HO):Hp:=fun b=>if b=a then some o else H b
theorem zbg {H:Hp}{a:Addr}{o:HO}:upd H a o a=some o:=by unfold upd;rw [if_pos rfl]
theorem zar {H:Hp}{a b:Addr}{o:HO} (h:b≠a):upd H a o b=H b:=by unfold upd;rw [if_neg h]
theorem zay {H:Hp}{a b:Addr}{o:HO} (h:H a=some o) (h':H b=none):a≠b:=by
  intro e;subst e;rw [h] at h';cases h'
section
variable (P:Program) (w:World)
def zb8 (H:Hp) (h:Heap) (a:Addr):HO->Prop
  | .lst xs=>xs.length≤sizeLine /\ ∃ (its:List Value) (n:Nat),Vals xs its /\ h.get? a=some {cls:=.type "list",data:=.seq its.toArray n}
  | .tup xs=>xs.length≤sizeLine /\ ∃ its:List Value,Vals xs its /\ IsTup h a its.toArray
  | .dK kvs=>kvs.length≤sizeLine /\ (a==sysModules)=false /\ ∃ vs,KV kvs vs /\ h.DictOf (ziw P w) a vs
  | .dT kvs=>kvs.length≤sizeLine /\ (a==sysModules)=false /\ ∃ xs:List (List Key×Addr×Value),
      Paired (fun (p:List Key×V) (q:List Key×Addr×Value)=>p.1=q.1 /\ H q.2.1=some (.tup (p.1.map kV)) /\ RelV p.2 q.2.2) kvs xs /\
      ∃ o es ep,h.get? a=some o /\ o.ExactDict /\ o.data=.dict es ep /\ es.toList=xs.map (entryOfKey (tupleKind (ziw P w))) /\ (xs.map (·.1)).Nodup
  | .set S n=>h.SetOf (intKind P w) a S n
  | .ins C dx fs=>H dx=some (.own a) /\ fs.length≤1000 /\ dx≠a /\ h.get? a=some (PySem.W.instObj C dx) /\
      ∃ mA,h.Ns1 dx mA /\ (∀ f,RelO (fs.lookup f) (mA f)) /\ PySem.Within mA (fs.map (·.1))
  | .own _=>∃ o,h.get? a=some o
  | .xd fs=>∃ mA,h.Ns1 a mA /\ ∀ f,RelO (fs.lookup f) (mA f)
  | .rng lo hi=>∃ t u v,h.get? a=some {cls:=.type "range",data:=.fields #[.int lo t,.int hi u,.int 1 v]}
  | .frz o u=>h.get? a=some o /\ zb8 H h a u
  | .tbl ps=>h.get? a=some {cls:=.none,data:=.fields ps}
  | .met f x=>h.get? a=some (PySem.W.methodObj (.ref f) (.ref x))
  | .ext φ=>φ h /\ (∃ o,h.get? a=some o) /\ ∀ h1 h2:Heap,φ h1->(∀ o,h1.get? a=some o->h2.get? a=some o)->φ h2
def HOk (H:Hp) (h:Heap):Prop:=∀ a o,H a=some o->zb8 P w H h a o
end
section
variable {P:Program}{w:World}{H H':Hp}{h h':Heap}{a:Addr}{o:HO}
theorem zb8.lt (x:zb8 P w H h a o):a < h.objs.size:=by
  cases o with
  | lst xs=>obtain ⟨_,_,_,_,e⟩:=x;exact Heap.lt_size e
  | tup xs=>obtain ⟨_,_,_,p⟩:=x;exact p.lt
  | dK kvs=>obtain ⟨_,_,_,_,o,_,_,e,_⟩:=x;exact Heap.lt_size e
  | dT kvs=>obtain ⟨_,_,_,_,o,_,_,e,_⟩:=x;exact Heap.lt_size e
  | set S n=>obtain ⟨o,_,_,_,e,_⟩:=x;exact Heap.lt_size e
  | ins C dx fs=>obtain ⟨_,_,_,e,_⟩:=x;exact Heap.lt_size e
  | own y=>obtain ⟨_,e⟩:=x;exact Heap.lt_size e
  | xd fs=>obtain ⟨_,⟨_,_,_,e,_⟩,_⟩:=x;exact Heap.lt_size e
  | rng lo hi=>obtain ⟨_,_,_,e⟩:=x;exact Heap.lt_size e
  | frz ob u=>obtain ⟨e,_⟩:=x;exact Heap.lt_size e
  | tbl ps=>exact Heap.lt_size (show h.get? a=some _ from x)
  | met f y=>exact Heap.lt_size (show h.get? a=some _ from x)
  | ext φ=>obtain ⟨_,⟨_,e⟩,_⟩:=x;exact Heap.lt_size e
theorem Paired.mapP {α β:Type}{F G:α->β->Prop}:∀ {l₁:List α}{l₂:List β},Paired F l₁ l₂->(∀ a b,F a b->G a b)->Paired G l₁ l₂
  | _,_,.nil,_=>.nil
  | _,_,.cons r t,f=>.cons (f _ _ r) (Paired.mapP t f)
theorem zb8.stay (x:zb8 P w H h a o) (k:∀ b u,(b=a \/ H b=some (.own a))->h.get? b=some u->h'.get? b=some u)
    (ho:∀ b,H b=some (.own a)->H' b=some (.own a)) (ht:∀ b xs,H b=some (.tup xs)->H' b=some (.tup xs)):zb8 P w H' h' a o:=by
  induction o with
  | lst xs=>obtain ⟨z,its,n,r,e⟩:=x;exact ⟨z,its,n,r,k _ _ (.inl rfl) e⟩
  | tup xs=>obtain ⟨z,its,r,ob,e,c⟩:=x;exact ⟨z,its,r,ob,k _ _ (.inl rfl) e,c⟩
  | dK kvs=>obtain ⟨z,y,vs,r,ob,es,ep,e,c⟩:=x;exact ⟨z,y,vs,r,ob,es,ep,k _ _ (.inl rfl) e,c⟩
  | dT kvs =>
    obtain ⟨z,y,xs,r,ob,es,ep,e,c⟩:=x
    exact ⟨z,y,xs,Paired.mapP r fun p q z=>⟨z.1,ht _ _ z.2.1,z.2.2⟩,ob,es,ep,k _ _ (.inl rfl) e,c⟩
  | set S n=>obtain ⟨ob,es,ep,t,e,c⟩:=x;exact ⟨ob,es,ep,t,k _ _ (.inl rfl) e,c⟩
  | ins C dx fs =>
    obtain ⟨d,z,ne,e,mA,⟨od,es,ep,e2,c⟩,r⟩:=x
    exact ⟨ho _ d,z,ne,k _ _ (.inl rfl) e,mA,⟨od,es,ep,k _ _ (.inr d) e2,c⟩,r⟩
  | own y=>obtain ⟨ob,e⟩:=x;exact ⟨ob,k _ _ (.inl rfl) e⟩
  | xd fs=>obtain ⟨mA,⟨od,es,ep,e,c⟩,r⟩:=x;exact ⟨mA,⟨od,es,ep,k _ _ (.inl rfl) e,c⟩,r⟩
  | rng lo hi=>obtain ⟨t,u,v,e⟩:=x;exact ⟨t,u,v,k _ _ (.inl rfl) e⟩
  | frz ob u ih=>obtain ⟨e,q⟩:=x;exact ⟨k _ _ (.inl rfl) e,ih q⟩
  | tbl ps =>
    have e:h.get? a=some {cls:=.none,data:=.fields ps}:=x
    show h'.get? a=some {cls:=.none,data:=.fields ps}
    exact k a _ (.inl rfl) e
  | met f y =>
    have e:h.get? a=some (PySem.W.methodObj (.ref f) (.ref y)):=x
    show h'.get? a=some (PySem.W.methodObj (.ref f) (.ref y))
    exact k a _ (.inl rfl) e
  | ext φ=>obtain ⟨p,⟨o,e⟩,st⟩:=x;exact ⟨st _ _ p fun o q=>k _ _ (.inl rfl) q,⟨o,k _ _ (.inl rfl) e⟩,st⟩
theorem HOk.lt (x:HOk P w H h) (e:H a=some o):a < h.objs.size:=(x a o e).lt
theorem HOk.fresh (x:HOk P w H h) (e:h.objs.size≤a):H a=none:=by
  cases q:H a with
  | none=>rfl
  | some u=>exact absurd (Nat.lt_of_lt_of_le (x.lt q) e) (Nat.lt_irrefl _)
theorem HOk.kept (x:HOk P w H h) (k:∀ b u,h.get? b=some u->h'.get? b=some u):HOk P w H h':=fun a o e=>
  (x a o e).stay (fun b u _ q=>k b u q) (fun _ q=>q) fun _ _ q=>q
theorem HOk.laid (x:HOk P w H h) (k:∀ b u,h.get? b=some u->h'.get? b=some u) (hp:h.objs.size≤a) (new:zb8 P w (upd H a o) h' a o):HOk P w (upd H a o) h':=fun b u e=>by
  have hn:=x.fresh hp
  by_cases hb:b=a
  · subst hb;rw [zbg] at e;cases e;exact new
  · rw [zar hb] at e
    exact (x b u e).stay (fun c v _ q=>k c v q) (fun c q=>by rw [zar (zay q hn)];exact q) fun c xs q=>by rw [zar (zay q hn)];exact q
end
def Rd (H:Hp) (a:Addr) (u:HO):Prop:=H a=some u \/ ∃ o,H a=some (.frz o u)
theorem Rd.of {H:Hp}{a:Addr}{u:HO} (h:H a=some u):Rd H a u:=.inl h
theorem Rd.ok {P:Program}{w:World}{H:Hp}{h:Heap}{a:Addr}{u:HO} (r:Rd H a u) (x:HOk P w H h):zb8 P w H h a u:=by
  rcases r with r | ⟨o,r⟩
  · exact x a u r
  · obtain ⟨_,q⟩:=x a _ r
    exact q
def Mut:Option HO->Prop
  | some (.lst _)=>True
  | some (.dK _)=>True
  | some (.dT _)=>True
  | some (.set _ _)=>True
  | some (.ins _ _ _)=>True
  | some (.ext _)=>True
  | _=>False
section
variable {P:Program}{w:World}{H:Hp}{h h':Heap}{x e:Addr}{o':HO}
theorem HOk.write (ok:HOk P w H h) (mu:Mut (H x)) (he:e=x \/ H e=some (.own x)) (k:∀ b u,b≠e->h.get? b=some u->h'.get? b=some u) (heo:∃ u,h'.get? e=some u)
    (new:zb8 P w (upd H x o') h' x o'):HOk P w (upd H x o') h':=fun b u q=>by
  have nown:∀ c y,H c=some (.own y)->c≠x:=fun c y r z=>by subst z;rw [r] at mu;exact mu
  have ntup:∀ c xs,H c=some (.tup xs)->c≠x:=fun c xs r z=>by subst z;rw [r] at mu;exact mu
  by_cases hb:b=x
  · subst hb;rw [zbg] at q;cases q;exact new
  · rw [zar hb] at q
    by_cases hbe:b=e
    · have q':H b=some (.own x):=by
        rcases he with z | z
        · exact absurd (hbe.trans z) hb
        · rw [hbe];exact z
      rw [q] at q';cases q'
      obtain ⟨v,hv⟩:=heo
      exact ⟨v,by rw [hbe];exact hv⟩
    · refine (ok b u q).stay (fun c v hc r=>k c v ?_ r) (fun c r=>by rw [zar (nown c b r)];exact r) fun c xs r=>by rw [zar (ntup c xs r)];exact r
      rcases hc with rfl | hc
      · exact hbe
      · rintro rfl
        rcases he with z | z
        · exact nown c b hc z
        · rw [hc] at z;cases z;exact hb rfl
end
structure Un (fs ex:List Addr) (H H':Hp) (h h':Heap):Prop where
  keep:∀ b o,h.get? b=some o->H b=none->b∉fs->b∉ex->h'.get? b=some o
  slot:∀ b o,h.get? b=some o->H b=none->b∈fs->b∉ex->∃ sl,h'.get? b=some {o with slots:=sl}
  free:∀ b o,h.get? b=some o->H b=none->b∉ex->H' b=none
  there:∀ b o,h.get? b=some o->b∉ex->∃ o',h'.get? b=some o'
  tups:∀ b xs,H b=some (.tup xs)->H' b=some (.tup xs)
  frzs:∀ b o u,H b=some (.frz o u)->H' b=some (.frz o u)
  tbls:∀ b ps,H b=some (.tbl ps)->∃ more,H' b=some (.tbl (ps++more))
section
variable {fs fs' ex ex':List Addr}{H H1 H2:Hp}{h h1 h2 h':Heap}{a x e:Addr}{o:HO}
theorem Un.any (u:Un fs ex H H1 h h1) {b:Addr}{ob:Obj} (q:h.get? b=some ob) (n:H b=none) (hx:b∉ex):∃ sl,h1.get? b=some {ob with slots:=sl}:=by
  by_cases hb:b∈fs
  · exact u.slot b ob q n hb hx
  · exact ⟨ob.slots,u.keep b ob q n hb hx⟩
theorem Un.trans (a:Un fs ex H H1 h h1) (b:Un fs ex H1 H2 h1 h2):Un fs ex H H2 h h2 where
  keep:=fun c ob q n hc hx=>b.keep c ob (a.keep c ob q n hc hx) (a.free c ob q n hx) hc hx
  slot:=fun c ob q n hc hx=>by
    obtain ⟨sl,e1⟩:=a.slot c ob q n hc hx
    obtain ⟨sl',e2⟩:=b.slot c _ e1 (a.free c ob q n hx) hc hx
    exact ⟨sl',e2⟩
  free:=fun c ob q n hx=>by
    obtain ⟨o',e1⟩:=a.there c ob q hx
    exact b.free c o' e1 (a.free c ob q n hx) hx
  there:=fun c ob q hx=>by
    obtain ⟨o',e1⟩:=a.there c ob q hx
    exact b.there c o' e1 hx
  tups:=fun c xs q=>b.tups c xs (a.tups c xs q)
  frzs:=fun c ob xs q=>b.frzs c ob xs (a.frzs c ob xs q)
  tbls:=fun c ps q=>by
    obtain ⟨m1,e1⟩:=a.tbls c ps q
    obtain ⟨m2,e2⟩:=b.tbls c _ e1
    exact ⟨m1++m2,by rw [e2,Array.append_assoc]⟩
theorem Un.kept (k:∀ b u,h.get? b=some u->h'.get? b=some u):Un fs ex H H h h':=
  ⟨fun b ob q _ _ _=>k b ob q,fun b ob q _ _ _=>⟨ob.slots,k b ob q⟩,fun _ _ _ n _=>n,fun b ob q _=>⟨ob,k b ob q⟩,fun _ _ q=>q,fun _ _ _ q=>q,fun _ ps q=>⟨#[],by rw [q];simp⟩⟩
theorem Un.refl:Un fs ex H H h h:=Un.kept fun _ _ q=>q
theorem Un.laid (k:∀ b u,h.get? b=some u->h'.get? b=some u) (hp:h.objs.size≤a) (hn:H a=none):Un fs ex H (upd H a o) h h' where
  keep:=fun b u q _ _ _=>k b u q
  slot:=fun b u q _ _ _=>⟨u.slots,k b u q⟩
  free:=fun b u q n _=>by rw [zar (Nat.ne_of_lt (Nat.lt_of_lt_of_le (Heap.lt_size q) hp))];exact n
  there:=fun b u q _=>⟨u,k b u q⟩
  tups:=fun b xs q=>by rw [zar (zay q hn)];exact q
  frzs:=fun b u xs q=>by rw [zar (zay q hn)];exact q
  tbls:=fun b ps q=>⟨#[],by rw [zar (zay q hn),q];simp⟩
theorem Un.write (mu:Mut (H x)) (he:e=x \/ H e=some (.own x)) (k:∀ b u,b≠e->h.get? b=some u->h'.get? b=some u) (heo:∃ u,h'.get? e=some u):Un fs ex H (upd H x o) h h':=by
  have hx:∀ b,H b=none->b≠x:=fun b n z=>by subst z;rw [n] at mu;exact mu
  have hb:∀ b,H b=none->b≠e:=fun b n z=>by
    subst z
    rcases he with r | r
    · exact hx b n r
    · rw [n] at r;cases r
  have hm:∀ b u,H b=some u->¬ Mut (some u)->b≠x:=fun b u q nm z=>by subst z;rw [q] at mu;exact nm mu
  refine ⟨fun b u q n _ _=>k b u (hb b n) q,fun b u q n _ _=>⟨u.slots,k b u (hb b n) q⟩,fun b u q n _=>by rw [zar (hx b n)];exact n,fun b u q _=>?_,
    fun b xs q=>by rw [zar (hm b _ q fun z=>z)];exact q,fun b u xs q=>by rw [zar (hm b _ q fun z=>z)];exact q,fun b ps q=>⟨#[],by rw [zar (hm b _ q fun z=>z),q];simp⟩⟩
  by_cases hbe:b=e
  · subst hbe;exact heo
  · exact ⟨u,k b u hbe q⟩
theorem Un.mono (u:Un fs ex H H1 h h1) (hs:∀ b∈fs,b∈fs') (hx:∀ b∈ex,b∈ex'):Un fs' ex' H H1 h h1:=
  ⟨fun b ob q n hb he=>u.keep b ob q n (fun z=>hb (hs b z)) fun z=>he (hx b z),fun _ _ q n _ he=>u.any q n fun z=>he (hx _ z),fun b ob q n he=>u.free b ob q n fun z=>he (hx b z),fun b ob q he=>u.there b ob q fun z=>he (hx b z),u.tups,u.frzs,u.tbls⟩
end
def trk (h:Heap) (H:Hp):List Addr:=(List.range h.objs.size).filter fun a=>(H a).isSome
def zfv (h:Heap) (H:Hp):Heap:=PySem.W.hideAll h (trk h H)
theorem zpd (h:Heap) (H:Hp):(zfv h H).objs.size=h.objs.size:=PySem.W.hideAll_size _ _
theorem zqx {h:Heap}{H:Hp}{b:Addr}{o:Obj} (e:h.get? b=some o) (n:H b=none):(zfv h H).get? b=some o:=
  PySem.W.hideAll_get _ e fun hm=>by
    have q:(H b).isSome=true:=(List.mem_filter.mp hm).2
    rw [n] at q;simp at q
theorem ztd {h:Heap}{H:Hp}{b:Addr}{o:Obj} (e:(zfv h H).get? b=some o):h.get? b=some o /\ H b=none:=by
  have e':h.get? b=some o:=PySem.W.of_hideAll (trk h H) e
  refine ⟨e',?_⟩
  cases q:H b with
  | none=>rfl
  | some x =>
    have hm:b∈trk h H:=List.mem_filter.mpr ⟨List.mem_range.mpr (Heap.lt_size e'),by simp [q]⟩
    have z:(zfv h H).get? b=none:=PySem.W.hideAll_none (trk h H) hm
    rw [z] at e;cases e
def zt8 (g h:Heap) (L:Addr):List (Addr×Obj):=(List.range h.objs.size).filterMap fun a=>if a=L \/ (g.get? a).isSome=true then none else (h.get? a).map fun o=>(a,o)
def rest (g h:Heap) (L d:Addr):List (Addr×Obj):=(zt8 g h L).filter fun p=>decide (p.1≠d)
end L2
namespace L2
open PySem PySem.Spec PyProof.Rows
structure Mod (K:PySem.W.Frag) (mg:Str->Option Value) (base:Heap):Prop where
  kin:K.In base
  glob:base.Ns mainGlobals mg
  blt:∃ mb,base.Ns builtinsNs mb /\ ∀ x:Str,x≠"__name__"->mb x=bootBuiltins x
  nolimit:base.NoLimit
structure Cx where
  prog:Program
  w:World
  K:PySem.W.Frag
  mg:Str->Option Value
  base:Heap
  A:Around
  N:List Str
  s₀:Shared
  H₀:Hp
  env:Env
  outer:List Env
  stack:List Env
  ex:List Addr
  fn:Str->Bool
  calm:Bool
  pn:List (Addr×Obj)
  xe:Value->Shared->Prop
def frs (l:List Env):List Addr:=l.filterMap (·.frame)
abbrev Cx.fs (X:Cx):List Addr:=frs X.outer
def Vis (sc:Scope) (x:Str):Prop:=sc.names.lookup x=some .local \/ sc.names.lookup x=some .cell \/ sc.names.lookup x=some .free
def Loc (sc:Scope) (x:Str):Prop:=sc.names.lookup x=some .local \/ sc.names.lookup x=some .cell
def Look (env:Env) (h:Heap) (m:Str->Option Value) (x:Str) (u:Value):Prop:=
  (env.kindOf x=some .local /\ m x=some u) \/ ((env.kindOf x=some .cell \/ env.kindOf x=some .free) /\ ∃ c,env.cells.lookup x=some c /\ h.IsCell c (some u))
structure Cx.Ok (X:Cx):Prop where
  mod:Mod X.K X.mg X.base
  kind:X.env.scope.kind=.function
  glob:X.env.globals=mainGlobals
  blt:X.env.builtins=builtinsNs
  above:X.s₀.heap.objs.size≤X.env.locals
  inj:∀ x y c,X.env.cells.lookup x=some c->X.env.cells.lookup y=some c->x=y
  has:∀ x,(X.env.kindOf x=some .cell \/ X.env.kindOf x=some .free)->∃ c,X.env.cells.lookup x=some c
  cab:∀ x c,X.fn x=true->X.env.cells.lookup x=some c->X.s₀.heap.objs.size≤c
  hd:X.calm=true->X.A.handled=none
  frames:X.A.frames=some X.stack
  stk:X.stack=X.outer \/ (X.stack=X.env::X.outer /\ X.env.frame=some X.env.locals)
  exf:∀ b∈X.ex,b≠X.env.locals /\ ∀ x c,X.env.cells.lookup x=some c->c≠b
  bs:∀ b o,X.base.get? b=some o->X.s₀.heap.get? b=some o /\ X.H₀ b=none
  bsz:X.base.objs.size≤X.s₀.heap.objs.size
  noex:∀ b o,X.base.get? b=some o->b∉X.ex
  exfs:∀ b∈X.ex,b∉X.fs
  funs:X.s₀.heap.FunFrames X.base X.outer
  frf:∀ b∈X.fs,X.H₀ b=none
structure Inv (X:Cx) (pins:List (Addr×Obj)) (σ:List (Option V)) (H:Hp) (s:Shared):Prop where
  ok:X.Ok
  os:s.os=X.s₀.os
  bare:AllBare s.gens
  base:Un X.fs X.ex X.H₀ H X.s₀.heap s.heap
  loc:∃ m,s.heap.Ns X.env.locals m /\ ∀ (i:Nat) (x:Str) (v:V),X.N[i]?=some x->σ[i]?=some (some v)->Vis X.env.scope x->∃ u,RelV v u /\ Look X.env s.heap m x u
  cell:∀ x c,X.env.cells.lookup x=some c->∃ v,s.heap.IsCell c v
  free:H X.env.locals=none
  freeC:∀ x c,X.env.cells.lookup x=some c->H c=none
  pin:∀ p∈X.pn++pins,s.heap.get? p.1=some p.2 /\ H p.1=none /\ p.1≠X.env.locals /\ p.1∉X.fs /\ ∀ v,p.2.data≠.cell v
  hok:HOk X.prog X.w H s.heap
  len:σ.length=X.N.length
section
variable {X:Cx}{pins:List (Addr×Obj)}{σ:List (Option V)}{H H':Hp}{s:Shared}{h':Heap}
theorem Cx.Ok.nofr (ok:X.Ok) {b:Addr}{o:Obj} (e:X.base.get? b=some o):b∉X.fs:=fun hb=>by
  have:=(ok.funs.mem hb).1
  rw [e] at this;cases this
theorem Inv.bs (I:Inv X pins σ H s):∀ b o,X.base.get? b=some o->s.heap.get? b=some o /\ H b=none:=fun b o e=>
  ⟨I.base.keep b o (I.ok.bs b o e).1 (I.ok.bs b o e).2 (I.ok.nofr e) (I.ok.noex b o e),I.base.free b o (I.ok.bs b o e).1 (I.ok.bs b o e).2 (I.ok.noex b o e)⟩
theorem Inv.bk (I:Inv X pins σ H s):∀ b o,X.base.get? b=some o->s.heap.get? b=some o:=fun b o e=>(I.bs b o e).1
theorem Inv.mod (I:Inv X pins σ H s):Mod X.K X.mg X.base:=I.ok.mod
theorem Inv.kIn (I:Inv X pins σ H s):X.K.In s.heap:=I.ok.mod.kin.keeps I.bk
theorem Inv.nolimit (I:Inv X pins σ H s):s.heap.NoLimit:=I.ok.mod.nolimit.keeps I.bk
theorem Inv.lt (I:Inv X pins σ H s):X.env.locals < s.heap.objs.size:=let ⟨_,hn,_⟩:=I.loc;hn.lt
theorem Inv.sz (I:Inv X pins σ H s):X.s₀.heap.objs.size≤s.heap.objs.size:=Nat.le_trans I.ok.above (Nat.le_of_lt I.lt)
theorem Inv.nofs (I:Inv X pins σ H s) {a:Addr} (h:s.heap.objs.size≤a):a∉X.fs:=fun hb=>by
  obtain ⟨_,o,ho,_⟩:=I.ok.funs.mem hb
  exact absurd (Nat.lt_of_lt_of_le (Heap.lt_size ho) (Nat.le_trans I.sz h)) (Nat.lt_irrefl _)
theorem Inv.cne (I:Inv X pins σ H s):∀ x c,X.env.cells.lookup x=some c->c≠X.env.locals:=fun x c e z=>by
  obtain ⟨v,o,ho,hd⟩:=I.cell x c e
  obtain ⟨m,⟨o',es,ep,ho',hd',_⟩,_⟩:=I.loc
  rw [z,ho'] at ho;cases ho;rw [hd'] at hd;cases hd
theorem Inv.funs (I:Inv X pins σ H s):s.heap.FunFrames X.base X.outer:=by
  have all:∀ (l:List Env),(∀ b∈frs l,b∈X.fs)->X.s₀.heap.FunFrames X.base l->s.heap.FunFrames X.base l:=by
    intro l
    induction l with
    | nil=>intro _ _;trivial
    | cons env r ih =>
      intro hs hl
      obtain ⟨hk,⟨L,o,hf,hn,ho,hd⟩,hr⟩:=hl
      have hL:L∈X.fs:=hs L (by unfold frs;rw [List.filterMap_cons,hf];exact List.mem_cons_self)
      obtain ⟨sl,e⟩:=I.base.slot L o ho (I.ok.frf L hL) hL fun z=>I.ok.exfs L z hL
      exact ⟨hk,⟨L,_,hf,hn,e,hd⟩,ih (fun b hb=>hs b (by unfold frs;rw [List.filterMap_cons,hf];exact List.mem_cons_of_mem _ hb)) hr⟩
  exact all X.outer (fun _ hb=>hb) I.ok.funs
theorem Inv.stack (I:Inv X pins σ H s):s.heap.FunFrames X.base X.stack:=by
  rcases I.ok.stk with e | ⟨e,hf⟩
  · rw [e];exact I.funs
  · rw [e]
    obtain ⟨m,hn,_⟩:=I.loc
    refine .cons (by rw [I.ok.kind];decide) hf hn ?_ I.funs
    exact Heap.get?_none_of_le (Nat.le_trans I.ok.bsz I.ok.above)
theorem Inv.stkSub (I:Inv X pins σ H s):∀ b∈frs X.stack,b∈X.env.locals::X.fs:=fun b hb=>by
  rcases I.ok.stk with e | ⟨e,hf⟩
  · rw [e] at hb;exact List.mem_cons_of_mem _ hb
  · rw [e] at hb
    unfold frs at hb
    rw [List.filterMap_cons,hf] at hb
    exact hb
theorem Inv.stkFree (I:Inv X pins σ H s):∀ b∈frs X.stack,H b=none:=fun b hb=>by
  rcases List.mem_cons.mp (I.stkSub b hb) with e | hb
  · rw [e];exact I.free
  · obtain ⟨_,o,ho,_⟩:=I.ok.funs.mem hb
    exact I.base.free b o ho (I.ok.frf b hb) fun z=>I.ok.exfs b z hb
theorem Inv.step {g':Array GenState}{t':Nat}{d':Drawn}{ch:List Addr} (I:Inv X pins σ H s)
    (hch:∀ b∈ch,(b∈X.ex \/ X.s₀.heap.objs.size≤b) /\ b≠X.env.locals /\ (∀ x c,X.env.cells.lookup x=some c->c≠b) /\ ∀ p∈X.pn++pins,p.1≠b)
    (keep:∀ b o,b≠X.env.locals->b∉X.fs->b∉ch->s.heap.get? b=some o->H b=none->h'.get? b=some o)
    (slot:∀ b o,b≠X.env.locals->b∈X.fs->b∉ch->s.heap.get? b=some o->H b=none->∃ sl,h'.get? b=some {o with slots:=sl}) (free:∀ b o,b∉ch->s.heap.get? b=some o->H b=none->H' b=none)
    (there:∀ b o,b∉ch->s.heap.get? b=some o->∃ o',h'.get? b=some o')
    (tups:∀ b xs,H b=some (.tup xs)->H' b=some (.tup xs)) (frzs:∀ b o u,H b=some (.frz o u)->H' b=some (.frz o u)) (tbls:∀ b ps,H b=some (.tbl ps)->∃ more,H' b=some (.tbl (ps++more)))
    (ns:∀ m,s.heap.Ns X.env.locals m->h'.Ns X.env.locals m) (hok:HOk X.prog X.w H' h') (hg:AllBare g') :
    Inv X pins σ H' {s with heap:=h',gens:=g',drawn:=d',toks:=t'}:=by
  have neL:∀ b o,X.s₀.heap.get? b=some o->b≠X.env.locals:=fun b o e=>Nat.ne_of_lt (Nat.lt_of_lt_of_le (Heap.lt_size e) I.ok.above)
  have neC:∀ b o,X.s₀.heap.get? b=some o->b∉X.ex->b∉ch:=fun b o e hx hb=>by
    rcases (hch b hb).1 with z | z
    · exact hx z
    · exact absurd (Nat.lt_of_lt_of_le (Heap.lt_size e) z) (Nat.lt_irrefl _)
  have cellK:∀ x c,X.env.cells.lookup x=some c->∀ v,s.heap.IsCell c v->h'.IsCell c v:=fun x c e v ⟨o,ho,hd⟩=>by
    have nch:c∉ch:=fun z=>(hch c z).2.2.1 x c e rfl
    by_cases hc:c∈X.fs
    · obtain ⟨sl,q⟩:=slot c o (I.cne x c e) hc nch ho (I.freeC x c e)
      exact ⟨_,q,hd⟩
    · exact ⟨o,keep c o (I.cne x c e) hc nch ho (I.freeC x c e),hd⟩
  refine ⟨I.ok,I.os,hg,⟨fun b o e n hb hx=>?_,fun b o e n hb hx=>?_,fun b o e n hx=>?_,fun b o e hx=>?_,fun b xs e=>tups b xs (I.base.tups b xs e),fun b o xs e=>frzs b o xs (I.base.frzs b o xs e),fun b ps e=>?_⟩,?_,fun x c e=>?_,?_,fun x c e=>?_,fun p hp=>?_,hok,I.len⟩
  · exact keep b o (neL b o e) hb (neC b o e hx) (I.base.keep b o e n hb hx) (I.base.free b o e n hx)
  · obtain ⟨sl,e1⟩:=I.base.slot b o e n hb hx
    obtain ⟨sl',e2⟩:=slot b _ (neL b o e) hb (neC b o e hx) e1 (I.base.free b o e n hx)
    exact ⟨sl',e2⟩
  · obtain ⟨o',e1⟩:=I.base.there b o e hx
    exact free b o' (neC b o e hx) e1 (I.base.free b o e n hx)
  · obtain ⟨o',e1⟩:=I.base.there b o e hx
    exact there b o' (neC b o e hx) e1
  · obtain ⟨m1,e1⟩:=I.base.tbls b ps e
    obtain ⟨m2,e2⟩:=tbls b _ e1
    exact ⟨m1++m2,by rw [e2,Array.append_assoc]⟩
  · obtain ⟨m,hn,hl⟩:=I.loc
    refine ⟨m,ns m hn,fun i x v e1 e2 e3=>?_⟩
    obtain ⟨u,r,l⟩:=hl i x v e1 e2 e3
    refine ⟨u,r,?_⟩
    rcases l with l | ⟨k,c,e,z⟩
    · exact .inl l
    · exact .inr ⟨k,c,e,cellK x c e _ z⟩
  · obtain ⟨v,z⟩:=I.cell x c e
    exact ⟨v,cellK x c e v z⟩
  · obtain ⟨m,⟨o,_,_,ho,_⟩,_⟩:=I.loc
    exact free _ o (fun z=>(hch _ z).2.1 rfl) ho I.free
  · obtain ⟨v,o,ho,hd⟩:=I.cell x c e
    exact free c o (fun z=>(hch c z).2.2.1 x c e rfl) ho (I.freeC x c e)
  · obtain ⟨e,n,ne,nf,d⟩:=I.pin p hp
    have nch:p.1∉ch:=fun z=>(hch p.1 z).2.2.2 p hp rfl
    exact ⟨keep p.1 p.2 ne nf nch e n,free p.1 p.2 nch e n,ne,nf,d⟩
theorem Inv.un {t':Nat} (I:Inv X pins σ H s) (u:Un X.fs [] H H' s.heap h') (hok:HOk X.prog X.w H' h'):Inv X pins σ H' {s with heap:=h',toks:=t'}:=by
  obtain ⟨m,⟨o,es,ep,ho,r⟩,_⟩:=id I.loc
  obtain ⟨sl,hL⟩:=u.any ho I.free (by simp)
  exact I.step (g':=s.gens) (d':=s.drawn) (ch:=[]) (fun _ z=>nomatch z) (fun b o _ hb _ e n=>u.keep b o e n hb (by simp)) (fun b o _ hb _ e n=>u.slot b o e n hb (by simp)) (fun b o _ e n=>u.free b o e n (by simp)) (fun b o _ e=>u.there b o e (by simp)) u.tups u.frzs u.tbls (fun m' hm=>by
    obtain ⟨o',es',ep',ho',r'⟩:=hm
    rw [ho] at ho';cases ho'
    exact ⟨_,es',ep',hL,r'⟩) hok I.bare
theorem Inv.call {g':Array GenState}{t':Nat}{d':Drawn}{ch:List Addr} (I:Inv X pins σ H s) (u:Un (frs X.stack) ch H H' s.heap h') (hok:HOk X.prog X.w H' h') (hg:AllBare g')
    (hch:∀ b∈ch,(b∈X.ex \/ X.s₀.heap.objs.size≤b) /\ b≠X.env.locals /\ (∀ x c,X.env.cells.lookup x=some c->c≠b) /\ ∀ p∈X.pn++pins,p.1≠b) :
    Inv X pins σ H' {s with heap:=h',gens:=g',drawn:=d',toks:=t'}:=by
  obtain ⟨m,⟨o,es,ep,ho,r⟩,_⟩:=id I.loc
  obtain ⟨sl,hL⟩:=u.any ho I.free fun z=>(hch _ z).2.1 rfl
  exact I.step (ch:=ch) hch (fun b o hL hb hc e n=>u.keep b o e n (fun z=>(List.mem_cons.mp (I.stkSub b z)).elim hL hb) hc) (fun b o _ _ hc e n=>u.any e n hc) (fun b o hc e n=>u.free b o e n hc) (fun b o hc e=>u.there b o e hc) u.tups u.frzs u.tbls (fun m' hm=>by
    obtain ⟨o',es',ep',ho',r'⟩:=hm
    rw [ho] at ho';cases ho'
    exact ⟨_,es',ep',hL,r'⟩) hok hg
theorem Inv.turned {t':Nat}{it:Addr} (I:Inv X pins σ H s) (k:∀ b o,b≠it->s.heap.get? b=some o->h'.get? b=some o) (hn:H it=none) (hL:it≠X.env.locals)
    (h1:it∈X.ex \/ X.s₀.heap.objs.size≤it) (h2:∀ x c,X.env.cells.lookup x=some c->c≠it) (h3:∀ p∈X.pn++pins,p.1≠it):Inv X pins σ H {s with heap:=h',toks:=t'}:=by
  have nit:∀ b u,H b=some u->b≠it:=fun b u e z=>by rw [z,hn] at e;cases e
  refine I.step (g':=s.gens) (d':=s.drawn) (ch:=[it]) (fun b hb=>?_) (fun b o _ _ hc e _=>k b o (fun z=>hc (by simp [z])) e) (fun b o _ _ hc e _=>⟨o.slots,k b o (fun z=>hc (by simp [z])) e⟩) (fun _ _ _ _ n=>n)
    (fun b o hc e=>⟨o,k b o (fun z=>hc (by simp [z])) e⟩) (fun _ _ e=>e) (fun _ _ _ e=>e) (fun b ps e=>⟨#[],by rw [e];simp⟩) (fun m hm=>?_) (fun b u e=>?_) I.bare
  · have e:b=it:=by simpa using hb
    subst e
    exact ⟨h1,hL,h2,h3⟩
  · obtain ⟨o,es,ep,ho,r⟩:=hm
    exact ⟨o,es,ep,k _ o (Ne.symm hL) ho,r⟩
  · refine (I.hok b u e).stay (fun c v hc q=>k c v ?_ q) (fun _ q=>q) fun _ _ q=>q
    rcases hc with z | z
    · rw [z];exact nit b u e
    · exact nit c _ z
theorem Inv.tok (I:Inv X pins σ H s) (t:Nat):Inv X pins σ H {s with toks:=t}:=I.un (h':=s.heap) (t':=t) Un.refl I.hok
theorem Inv.kept {t':Nat} (I:Inv X pins σ H s) (k:∀ b u,s.heap.get? b=some u->h'.get? b=some u):Inv X pins σ H {s with heap:=h',toks:=t'}:=I.un (Un.kept k) (I.hok.kept k)
theorem Inv.laid {a:Addr}{o:HO}{t':Nat} (I:Inv X pins σ H s) (k:∀ b u,s.heap.get? b=some u->h'.get? b=some u) (hp:s.heap.objs.size≤a) (new:zb8 X.prog X.w (upd H a o) h' a o) :
    Inv X pins σ (upd H a o) {s with heap:=h',toks:=t'}:=I.un (Un.laid k hp (I.hok.fresh hp)) (I.hok.laid k hp new)
theorem Inv.write {x e:Addr}{o:HO}{t':Nat} (I:Inv X pins σ H s) (mu:Mut (H x)) (he:e=x \/ H e=some (.own x)) (k:∀ b u,b≠e->s.heap.get? b=some u->h'.get? b=some u) (heo:∃ u,h'.get? e=some u)
    (new:zb8 X.prog X.w (upd H x o) h' x o):Inv X pins σ (upd H x o) {s with heap:=h',toks:=t'}:=I.un (Un.write mu he k heo) (I.hok.write mu he k heo new)
theorem Inv.weak {σ':List (Option V)} (I:Inv X pins σ H s) (hl:σ'.length=σ.length) (w:∀ (i:Nat) v,σ'[i]?=some (some v)->σ[i]?=some (some v)):Inv X pins σ' H s:=
  ⟨I.ok,I.os,I.bare,I.base,let ⟨m,hn,hl'⟩:=I.loc;⟨m,hn,fun i x v e1 e2 e3=>hl' i x v e1 (w i v e2) e3⟩,I.cell,I.free,I.freeC,I.pin,I.hok,hl.trans I.len⟩
theorem Inv.pins_of {pins':List (Addr×Obj)} (I:Inv X pins σ H s) (h:∀ p∈pins',s.heap.get? p.1=some p.2 /\ H p.1=none /\ p.1≠X.env.locals /\ p.1∉X.fs /\ ∀ v,p.2.data≠.cell v):Inv X pins' σ H s:=
  ⟨I.ok,I.os,I.bare,I.base,I.loc,I.cell,I.free,I.freeC,fun p hp=>(List.mem_append.mp hp).elim (fun z=>I.pin p (List.mem_append_left _ z)) (h p),I.hok,I.len⟩
theorem zlq {N:List Str} (hN:N.Nodup) {i j:Nat}{x:Str} (a:N[i]?=some x) (b:N[j]?=some x):i=j:=by
  obtain ⟨h1,e1⟩:=List.getElem?_eq_some_iff.mp a
  obtain ⟨h2,e2⟩:=List.getElem?_eq_some_iff.mp b
  exact (List.getElem_inj hN).mp (e1.trans e2.symm)
theorem zjm {M:Model}{A:Around}{E:Value->Shared->Prop}{i:Nat}{x:Str}{v:V}{u:Value}{Q:Unit->Shared->Prop} (I:Inv X pins σ H s) (hN:X.N.Nodup) (hi:X.N[i]?=some x) (hx:Loc X.env.scope x) (r:RelV v u)
    (h:∀ s',Inv X pins (σ.set i (some v)) H s'->(∃ a,Heap.SameBut a s.heap s'.heap /\ (a=X.env.locals \/ X.env.cells.lookup x=some a))->Q () s') (hf:X.fn x=true \/ X.env.scope.names.lookup x=some .local:=by first | exact .inl rfl | exact .inr rfl | assumption):wpAny M A (storeName X.env x u) Q E s:=by
  obtain ⟨m,hn,hl⟩:=id I.loc
  have hcls:(X.env.scope.kind==.class||(X.env.scope.kind==.module&&X.env.locals != X.env.globals))=false:=by rw [I.ok.kind];rfl
  have hiσ:i < σ.length:=by rw [I.len];exact (List.getElem?_eq_some_iff.mp hi).1
  have cne:=I.cne
  have tracked:∀ {a:Addr}{h':Heap},(∃ o,s.heap.get? a=some o /\ H a=none)->Heap.SameBut a s.heap h'->HOk X.prog X.w H h':=fun {a h'} ha hs b ob e=>by
    obtain ⟨_,_,hfree⟩:=ha
    refine (I.hok b ob e).stay (fun c w' hc q=>(hs.2 c ?_).trans q) (fun _ q=>q) fun _ _ q=>q
    rintro rfl
    rcases hc with rfl | hc
    · rw [hfree] at e;cases e
    · rw [hfree] at hc;cases hc
  rcases hx with hk | hk
  · refine wpAny_storeName_local hk hn (fun h' hn' hs=>?_) hcls
    obtain ⟨oL,_,_,hoL,_⟩:=id hn
    refine h _ ⟨I.ok,I.os,I.bare,⟨fun b o e n hb hx=>?_,fun b o e n hb hx=>?_,I.base.free,fun b o e hx=>?_,I.base.tups,I.base.frzs,I.base.tbls⟩,⟨_,hn',fun j y v' e1 e2 e3=>?_⟩,fun y c e=>?_,I.free,I.freeC,fun p hp=>?_,tracked ⟨oL,hoL,I.free⟩ hs,by simpa using I.len⟩ ⟨_,hs,.inl rfl⟩
    · exact (hs.2 b (Nat.ne_of_lt (Nat.lt_of_lt_of_le (Heap.lt_size e) I.ok.above))).trans (I.base.keep b o e n hb hx)
    · obtain ⟨sl,e1⟩:=I.base.slot b o e n hb hx
      exact ⟨sl,(hs.2 b (Nat.ne_of_lt (Nat.lt_of_lt_of_le (Heap.lt_size e) I.ok.above))).trans e1⟩
    · obtain ⟨o',e1⟩:=I.base.there b o e hx
      exact ⟨o',(hs.2 b (Nat.ne_of_lt (Nat.lt_of_lt_of_le (Heap.lt_size e) I.ok.above))).trans e1⟩
    · by_cases hj:j=i
      · subst hj
        rw [hi] at e1;cases e1
        rw [List.getElem?_set_self hiσ] at e2
        cases e2
        exact ⟨u,r,.inl ⟨hk,by simp⟩⟩
      · rw [List.getElem?_set_ne (Ne.symm hj)] at e2
        obtain ⟨u',r',q⟩:=hl j y v' e1 e2 e3
        refine ⟨u',r',?_⟩
        rcases q with ⟨k,e⟩ | ⟨k,c,e,z⟩
        · refine .inl ⟨k,?_⟩
          have:y≠x:=fun e=>hj (zlq hN e1 (e ▸ hi))
          simp [this,e]
        · exact .inr ⟨k,c,e,z.sameBut hs (cne y c e)⟩
    · obtain ⟨w',z⟩:=I.cell y c e
      exact ⟨w',z.sameBut hs (cne y c e)⟩
    · obtain ⟨e,n,ne,nf,d⟩:=I.pin p hp
      exact ⟨(hs.2 p.1 ne).trans e,n,ne,nf,d⟩
  · have hfn:X.fn x=true:=by
      rcases hf with z | z
      · exact z
      · rw [z] at hk;cases hk
    obtain ⟨c,hc⟩:=I.ok.has x (.inl hk)
    obtain ⟨w',z⟩:=I.cell x c hc
    refine wpAny_storeName_cell I.ok.kind hk hc z (fun h' hc' hs=>?_)
    obtain ⟨oc,hoc,hocd⟩:=id z
    refine h {s with heap:=h'} ⟨I.ok,I.os,I.bare,⟨fun b o e n hb hx=>?_,fun b o e n hb hx=>?_,I.base.free,fun b o e hx=>?_,I.base.tups,I.base.frzs,I.base.tbls⟩,⟨m,hn.sameBut hs (Ne.symm (cne x c hc)),fun j y v' e1 e2 e3=>?_⟩,fun y c' e=>?_,I.free,I.freeC,fun p hp=>?_,tracked ⟨oc,hoc,I.freeC x c hc⟩ hs,by simpa using I.len⟩ ⟨c,hs,.inr hc⟩
    · exact (hs.2 b (Nat.ne_of_lt (Nat.lt_of_lt_of_le (Heap.lt_size e) (I.ok.cab x c hfn hc)))).trans (I.base.keep b o e n hb hx)
    · obtain ⟨sl,e1⟩:=I.base.slot b o e n hb hx
      exact ⟨sl,(hs.2 b (Nat.ne_of_lt (Nat.lt_of_lt_of_le (Heap.lt_size e) (I.ok.cab x c hfn hc)))).trans e1⟩
    · obtain ⟨o',e1⟩:=I.base.there b o e hx
      exact ⟨o',(hs.2 b (Nat.ne_of_lt (Nat.lt_of_lt_of_le (Heap.lt_size e) (I.ok.cab x c hfn hc)))).trans e1⟩
    · by_cases hj:j=i
      · subst hj
        rw [hi] at e1;cases e1
        rw [List.getElem?_set_self hiσ] at e2
        cases e2
        exact ⟨u,r,.inr ⟨.inl hk,c,hc,hc'⟩⟩
      · rw [List.getElem?_set_ne (Ne.symm hj)] at e2
        obtain ⟨u',r',q⟩:=hl j y v' e1 e2 e3
        refine ⟨u',r',?_⟩
        rcases q with q | ⟨k,c',e,z'⟩
        · exact .inl q
        · refine .inr ⟨k,c',e,z'.sameBut hs ?_⟩
          rintro rfl
          exact hj (zlq hN e1 (I.ok.inj _ _ _ e hc ▸ hi))
    · by_cases hcc:c'=c
      · subst hcc;exact ⟨_,hc'⟩
      · obtain ⟨w2,z2⟩:=I.cell y c' e
        exact ⟨w2,z2.sameBut hs hcc⟩
    · obtain ⟨e,n,ne,nf,d⟩:=I.pin p hp
      refine ⟨(hs.2 p.1 ?_).trans e,n,ne,nf,d⟩
      intro q
      rw [q,hoc] at e
      have q':oc=p.2:=Option.some.inj e
      exact d w' (by rw [<- q'];exact hocd)
theorem zqb {M:Model}{A:Around}{E:Value->Shared->Prop}{i:Nat}{x:Str}{v:V}{u:Value}{Q:Unit->Shared->Prop} (I:Inv X pins σ H s) (hN:X.N.Nodup) (hi:X.N[i]?=some x) (hx:Loc X.env.scope x) (r:RelV v u)
    (h:∀ s',Inv X pins (σ.set i (some v)) H s'->Q () s') (hf:X.fn x=true \/ X.env.scope.names.lookup x=some .local:=by first | exact .inl rfl | exact .inr rfl | assumption):wpAny M A (storeName X.env x u) Q E s:=
  zjm I hN hi hx r (fun s' I' _=>h s' I') hf
theorem Inv.call' {s':Shared}{ch:List Addr} (I:Inv X pins σ H s) (ho:s'.os=s.os) (u:Un (frs X.stack) ch H H' s.heap s'.heap) (hok:HOk X.prog X.w H' s'.heap) (hg:AllBare s'.gens)
    (hch:∀ b∈ch,(b∈X.ex \/ X.s₀.heap.objs.size≤b) /\ b≠X.env.locals /\ (∀ x c,X.env.cells.lookup x=some c->c≠b) /\ ∀ p∈X.pn++pins,p.1≠b):Inv X pins σ H' s':=by
  obtain ⟨h',g',d',t',o'⟩:=s'
  have e:o'=s.os:=ho
  subst e
  exact I.call (g':=g') (t':=t') (d':=d') u hok hg hch
end
abbrev XK:=Value->Option Addr->Hp->Prop
abbrev St:=List (Option V)
abbrev VK:=V->Hp->Prop
abbrev TE:=St->Hp->VK->Prop
abbrev TT:=St->Hp->(Bool->Hp->Prop)->Prop
abbrev TA:=St->Hp->(List V->Hp->Prop)->Prop
structure Ends where
  nx:St->Hp->Prop
  rt:VK
  bk:St->Hp->Prop:=fun _ _=>False
  ct:St->Hp->Prop:=fun _ _=>False
abbrev TS:=Ends->St->Hp->Prop
def EP (X:Cx) (pins:List (Addr×Obj)) (σ:St) (Q:VK) (u:Value) (s':Shared):Prop:=∃ v H',Inv X pins σ H' s' /\ RelV v u /\ Q v H'
def TP (X:Cx) (pins:List (Addr×Obj)) (σ:St) (Q:Bool->Hp->Prop) (b:Bool) (s':Shared):Prop:=∃ H',Inv X pins σ H' s' /\ Q b H'
def AP (X:Cx) (pins:List (Addr×Obj)) (σ:St) (Q:List V->Hp->Prop) (us:List Value) (s':Shared):Prop:=∃ vs H',Inv X pins σ H' s' /\ Vals vs us /\ Q vs H'
def SP (X:Cx) (pins:List (Addr×Obj)) (D:Ends) (f:Flow) (s':Shared):Prop:=
  match f with
  | .next=>∃ σ' H',Inv X pins σ' H' s' /\ D.nx σ' H'
  | .brk=>∃ σ' H',Inv X pins σ' H' s' /\ D.bk σ' H'
  | .cont=>∃ σ' H',Inv X pins σ' H' s' /\ D.ct σ' H'
  | .ret u=>∃ v σ' H',Inv X pins σ' H' s' /\ RelV v u /\ D.rt v H'
def PE (X:Cx) (e:Expr) (t:TE):Prop:=
  ∀ (pins:List (Addr×Obj)) (s:Shared) (σ:St) (H:Hp) (Q:VK),Inv X pins σ H s->t σ H Q->wpAny (model X.prog X.w) X.A (eval e X.env) (EP X pins σ Q) X.xe s
def PT (X:Cx) (e:Expr) (t:TT):Prop:=
  ∀ (pins:List (Addr×Obj)) (s:Shared) (σ:St) (H:Hp) (Q:Bool->Hp->Prop),Inv X pins σ H s->t σ H Q->wpAny (model X.prog X.w) X.A (isTrue e X.env (eval e X.env)) (TP X pins σ Q) X.xe s
def PW (X:Cx) (e:Expr) (t:TT):Prop:=
  ∀ (whole:Sem Value) (pins:List (Addr×Obj)) (s:Shared) (σ:St) (H:Hp) (Q:Bool->Hp->Prop),Inv X pins σ H s->t σ H Q->wpAny (model X.prog X.w) X.A (isTrue e X.env whole) (TP X pins σ Q) X.xe s
theorem PW.pt {X:Cx}{e:Expr}{t:TT} (h:PW X e t):PT X e t:=h _
def PA (X:Cx) (es:List Expr) (t:TA):Prop:=
  ∀ (pos:Pos) (pins:List (Addr×Obj)) (s:Shared) (σ:St) (H:Hp) (Q:List V->Hp->Prop),Inv X pins σ H s->t σ H Q->wpAny (model X.prog X.w) X.A (spliced (backTo pos (starEach es X.env))) (AP X pins σ Q) X.xe s
def PS (X:Cx) (st:Stmt) (t:TS):Prop:=
  ∀ (pins:List (Addr×Obj)) (s:Shared) (σ:St) (H:Hp) (D:Ends),Inv X pins σ H s->t D σ H->wpAny (model X.prog X.w) X.A (exec st X.env) (SP X pins D) X.xe s
def PSs (X:Cx) (st:List Stmt) (t:TS):Prop:=
  ∀ (pins:List (Addr×Obj)) (s:Shared) (σ:St) (H:Hp) (D:Ends),Inv X pins σ H s->t D σ H->wpAny (model X.prog X.w) X.A (execs st X.env) (SP X pins D) X.xe s
theorem thn {α:Type}{t:Sem α}{Q Q':α->Shared->Prop}{M:Model}{A:Around}{E:Value->Shared->Prop}{s:Shared} (h:wpAny M A t Q E s) (hQ:∀ a s,Q a s->Q' a s):wpAny M A t Q' E s:=wpAny_mono h hQ fun _ _ x=>x
end L2
namespace L2
open PySem PySem.Spec PyProof.Rows
section
variable {X:Cx}
theorem bin {a b:Expr}{ta tb:TE} (ha:PE X a ta) (hb:PE X b tb) {pins:List (Addr×Obj)}{s:Shared}{σ:St}{H:Hp}{R:V->V->Hp->Prop} (I:Inv X pins σ H s) (h:ta σ H fun x H1=>tb σ H1 fun y H2=>R x y H2)
    {α:Type}{Q:α->Shared->Prop}{f:Value->Value->Sem α}
    (hf:∀ v u s2 x y H2,Inv X pins σ H2 s2->RelV x v->RelV y u->R x y H2->wpAny (model X.prog X.w) X.A (f v u) Q X.xe s2) :
    wpAny (model X.prog X.w) X.A (eval a X.env) (fun v s₁=>wpAny (model X.prog X.w) X.A (eval b X.env) (fun u s₂=>wpAny (model X.prog X.w) X.A (f v u) Q X.xe s₂) X.xe s₁) X.xe s:=by
  refine thn (ha pins s σ H _ I h) fun v s1 ⟨x,H1,I1,r1,q1⟩=>?_
  refine thn (hb pins s1 σ H1 _ I1 q1) fun u s2 ⟨y,H2,I2,r2,q2⟩=>?_
  exact hf v u s2 x y H2 I2 r1 r2 q2
def tVar (i:Nat):TE:=fun σ H Q=>∃ v,σ[i]?=some (some v) /\ Q v H
def tC (v:V):TE:=fun _ H Q=>Q v H
theorem zht {i:Nat}{x:Str}{pos:Pos} (hN:X.N[i]?=some x) (hv:Vis X.env.scope x) (hd:(x==("__debug__":Str))=false:=by decide) (hcd:(x==("__classdict__":Str))=false:=by decide):PE X (.Name x pos) (tVar i):=by
  intro pins s σ H Q I h
  obtain ⟨v,e,h⟩:=h
  obtain ⟨m,hn,hl⟩:=I.loc
  obtain ⟨u,r,l⟩:=hl i x v hN e hv
  have fin:EP X pins σ Q u s:=⟨v,H,I,r,h⟩
  rcases l with ⟨hk,hm⟩ | ⟨hk,c,hc,hcell⟩
  · exact wpAny_Name (wpAny_loadName_local I.ok.kind hk hn hm fin) hd
  · rcases hk with hk | hk
    · exact wpAny_Name (wpAny_loadName_cell I.ok.kind hk hc hcell fin) hd
    · exact wpAny_Name (wpAny_loadName_free I.ok.kind hk hc hcell fin hcd) hd
theorem pe_int {i j pos}:PE X (.Constant (.int i) j pos) (tC (.int i)):=fun _ _ _ H _ I h=>wpAny_Constant_int ⟨.int i,H,I.tok _,⟨_,rfl⟩,h⟩
theorem znf {b j pos}:PE X (.Constant (.bool b) j pos) (tC (.bl b)):=fun _ _ _ H _ I h=>Constant_bool ⟨.bl b,H,I,rfl,h⟩
theorem pe_non {j pos}:PE X (.Constant .none j pos) (tC .non):=fun _ _ _ H _ I h=>Constant_none ⟨.non,H,I,rfl,h⟩
theorem zo4 {x j pos}:PE X (.Constant (.str x) j pos) (tC (.str x)):=fun _ _ _ H _ I h=>Calls.Constant_str ⟨.str x,H,I.tok _,⟨_,rfl⟩,h⟩
def Gl (X:Cx) (x:Str):Prop:=X.env.kindOf x=some .globalImplicit
theorem zfh {E:Value->Shared->Prop}{pins:List (Addr×Obj)}{s:Shared}{σ:St}{H:Hp}{x:Str}{u:Value}{pos:Pos}{Q:Value->Shared->Prop} (I:Inv X pins σ H s) (hg:Gl X x) (hm:X.mg x=some u) (h:Q u s)
    (hd:(x==("__debug__":Str))=false:=by decide):wpAny (model X.prog X.w) X.A (eval (.Name x pos) X.env) Q E s:=
  Calls.Name_function_global I.ok.kind hg (Calls.loadGlobal_global (by rw [I.ok.glob];exact I.mod.glob.keeps I.bk) hm h) hd
theorem zfi {E:Value->Shared->Prop}{pins:List (Addr×Obj)}{s:Shared}{σ:St}{H:Hp}{x:Str}{u:Value}{pos:Pos}{Q:Value->Shared->Prop} (I:Inv X pins σ H s) (hg:Gl X x) (hm:X.mg x=none) (hv:bootBuiltins x=some u) (h:Q u s)
    (hn:x≠"__name__":=by decide) (hd:(x==("__debug__":Str))=false:=by decide):wpAny (model X.prog X.w) X.A (eval (.Name x pos) X.env) Q E s:=by
  obtain ⟨mb,h1,h2⟩:=I.mod.blt
  exact Calls.Name_function_global I.ok.kind hg (Calls.loadGlobal_builtin (by rw [I.ok.glob];exact I.mod.glob.keeps I.bk) hm (by rw [I.ok.blt];exact h1.keeps I.bk) ((h2 x hn).trans hv) h) hd
theorem zmw {x:Str}{v:V}{u:Value}{pos:Pos} (hg:Gl X x) (hm:X.mg x=some u) (r:RelV v u) (hd:(x==("__debug__":Str))=false:=by decide):PE X (.Name x pos) (tC v):=
  fun _ _ _ H _ I h=>zfh I hg hm ⟨v,H,I,r,h⟩ hd
theorem zmx {x:Str}{v:V}{u:Value}{pos:Pos} (hg:Gl X x) (hm:X.mg x=none) (hv:bootBuiltins x=some u) (r:RelV v u) (hn:x≠"__name__":=by decide) (hd:(x==("__debug__":Str))=false:=by decide):PE X (.Name x pos) (tC v):=
  fun _ _ _ H _ I h=>zfi I hg hm hv ⟨v,H,I,r,h⟩ hn hd
variable {a b:Expr}{ta tb:TE}{pos:Pos}
variable {tA tB':TT}{rest:List Expr}
def zfp (t u:TT):TT:=fun σ H Q=>t σ H fun c H1=>if c=true then u σ H1 Q else Q false H1
def tOr (t u:TT):TT:=fun σ H Q=>t σ H fun c H1=>if c=true then Q true H1 else u σ H1 Q
def zbf (t:TT):TT:=fun σ H Q=>t σ H fun c H1=>Q (!c) H1
theorem pw_or1 (ha:PT X a tA):PW X (.BoolOp .Or [a] pos) tA:=by
  intro wh pins s σ H Q I h
  refine isTrue_or (thn (ha pins s σ H Q I h) fun c s1 e=>?_)
  cases c with
  | false=>exact isTrue_or_nil e
  | true=>exact e
theorem pw_or (ha:PT X a tA) (hb:PW X (.BoolOp .Or (b::rest) pos) tB'):PW X (.BoolOp .Or (a::b::rest) pos) (tOr tA tB'):=by
  intro wh pins s σ H Q I h
  refine isTrue_or (thn (ha pins s σ H _ I h) fun c s1 ⟨H1,I1,q1⟩=>?_)
  cases c with
  | true=>exact ⟨H1,I1,q1⟩
  | false=>exact hb wh pins s1 σ H1 Q I1 q1
theorem pt_not (ha:PT X a tA):PT X (.UnaryOp .Not a pos) (zbf tA):=by
  intro pins s σ H Q I h
  exact isTrue_not (ha pins s σ H (fun c H1=>Q (!c) H1) I h)
def tAndV (ta tb:TE):TE:=fun σ H Q=>ta σ H fun x H1=>∃ c,x=.bl c /\ if c=true then tb σ H1 Q else Q (.bl false) H1
theorem pe_one {op}{t:TE} (h:PE X a t):PE X (.BoolOp op [a] pos) t:=fun pins s σ H Q I hw=>BoolOp_one (h pins s σ H Q I hw)
theorem pe_and (ha:PE X a ta) (hb:PE X (.BoolOp .And (b::rest) pos) tb):PE X (.BoolOp .And (a::b::rest) pos) (tAndV ta tb):=by
  intro pins s σ H Q I h
  refine BoolOp_and (thn (ha pins s σ H _ I h) fun v s1 ⟨x,H1,I1,r1,q1⟩=>?_)
  obtain ⟨c,rfl,q1⟩:=q1
  cases r1
  refine wpAny_truthy_bool ?_
  cases c with
  | true=>exact hb pins s1 σ H1 Q I1 q1
  | false=>exact ⟨.bl false,H1,I1,rfl,q1⟩
end
end L2
namespace L2
open PySem PySem.Spec PyProof.Rows
def SqL (K:PySem.W.Frag) (H:Hp) (a:Addr) (xs:List V):Prop:=
  Rd H a (.lst xs) \/
    ∃ (o:Obj) (its:Array Value) (n:Nat),K.lookup a=some o /\ o.cls=.type "list" /\ o.dict=none /\ o.data=.seq its n /\ its.size≤sizeLine /\ Vals xs its.toList
def SqT (K:PySem.W.Frag) (H:Hp) (a:Addr) (xs:List V):Prop:=
  Rd H a (.tup xs) \/
    ∃ (o:Obj) (its:Array Value) (n:Nat),K.lookup a=some o /\ o.cls=.type "tuple" /\ o.data=.seq its n /\ its.size≤sizeLine /\ Vals xs its.toList
def absV:Value->Option V
  | .none=>some .non
  | .bool b=>some (.bl b)
  | .int i _=>some (.int i)
  | .str x _=>some (.str x)
  | .bytes b _=>some (.byt b)
  | .float b _=>some (.flt b)
  | .ref a=>some (.ref a)
  | .type n=>some (.ty n)
  | _=>none
theorem RelV.abs {x:V}{u:Value} (r:RelV x u):absV u=some x:=by
  cases x with
  | non=>cases r;rfl
  | bl _=>cases r;rfl
  | int _=>obtain ⟨t,rfl⟩:=r;rfl
  | str _=>obtain ⟨t,rfl⟩:=r;rfl
  | byt _=>obtain ⟨t,rfl⟩:=r;rfl
  | flt _=>obtain ⟨t,rfl⟩:=r;rfl
  | ref _=>cases r;rfl
  | ty _=>cases r;rfl
theorem RelV.inj {x y:V}{u:Value} (r:RelV x u) (q:RelV y u):x=y:=Option.some.inj (r.abs.symm.trans q.abs)
theorem Vals.inj:∀ {xs ys:List V}{us:List Value},Vals xs us->Vals ys us->xs=ys
  | _,_,_,.nil,.nil=>rfl
  | _,_,_,.cons r t,.cons r' t'=>by rw [r.inj r',Vals.inj t t']
section
variable {X:Cx}{pins:List (Addr×Obj)}{σ:St}{H:Hp}{s:Shared}{a:Addr}{xs ys:List V}
theorem SqL.of {K:PySem.W.Frag} (h:H a=some (.lst xs)):SqL K H a xs:=.inl (.inl h)
theorem SqT.of {K:PySem.W.Frag} (h:H a=some (.tup xs)):SqT K H a xs:=.inl (.inl h)
theorem Inv.list (I:Inv X pins σ H s) (h:SqL X.K H a xs):∃ its:List Value,Vals xs its /\ PlainL s.heap a its.toArray /\ xs.length≤sizeLine:=by
  rcases h with h | ⟨o,its,n,hk,hc,hd,hs,hz,r⟩
  · obtain ⟨z,its,n,r,e⟩:=h.ok I.hok
    exact ⟨its,r,⟨_,n,e,rfl,rfl,rfl⟩,z⟩
  · refine ⟨its.toList,r,⟨o,n,I.kIn a o hk,hc,hd,by simpa using hs⟩,?_⟩
    have e:=r.length
    simp only [Array.length_toList] at e
    omega
theorem Inv.tuple (I:Inv X pins σ H s) (h:SqT X.K H a xs):∃ its:List Value,Vals xs its /\ IsTup s.heap a its.toArray /\ xs.length≤sizeLine:=by
  rcases h with h | ⟨o,its,n,hk,hc,hs,hz,r⟩
  · obtain ⟨z,its,r,p⟩:=h.ok I.hok
    exact ⟨its,r,p,z⟩
  · refine ⟨its.toList,r,⟨o,I.kIn a o hk,hc,n,by simpa using hs⟩,?_⟩
    have e:=r.length
    simp only [Array.length_toList] at e
    omega
theorem Inv.list_inj (I:Inv X pins σ H s) (h:SqL X.K H a xs) (h':SqL X.K H a ys):xs=ys:=by
  obtain ⟨its,r,⟨o,n,e,_,_,d⟩,_⟩:=I.list h
  obtain ⟨its',r',⟨o',n',e',_,_,d'⟩,_⟩:=I.list h'
  rw [e] at e';cases e'
  rw [d] at d'
  injection d' with d1 _
  have:its=its':=by simpa using congrArg Array.toList d1
  subst this
  exact r.inj r'
theorem Inv.tuple_inj (I:Inv X pins σ H s) (h:SqT X.K H a xs) (h':SqT X.K H a ys):xs=ys:=by
  obtain ⟨its,r,⟨o,e,_,n,d⟩,_⟩:=I.tuple h
  obtain ⟨its',r',⟨o',e',_,n',d'⟩,_⟩:=I.tuple h'
  rw [e] at e';cases e'
  rw [d] at d'
  injection d' with d1 _
  have:its=its':=by simpa using congrArg Array.toList d1
  subst this
  exact r.inj r'
end
abbrev Cx.wish (X:Cx) (E:Value->Shared->Prop):Cx:={X with xe:=E}
abbrev Cx.nox (X:Cx):Cx:=X.wish fun _ _=>False
theorem Cx.Ok.wish {X:Cx} (ok:X.Ok) (E:Value->Shared->Prop):(X.wish E).Ok:=
  ⟨ok.mod,ok.kind,ok.glob,ok.blt,ok.above,ok.inj,ok.has,ok.cab,ok.hd,ok.frames,ok.stk,ok.exf,ok.bs,ok.bsz,ok.noex,ok.exfs,ok.funs,ok.frf⟩
theorem Cx.Ok.unwish {X:Cx}{E:Value->Shared->Prop} (ok:(X.wish E).Ok):X.Ok:=
  ⟨ok.mod,ok.kind,ok.glob,ok.blt,ok.above,ok.inj,ok.has,ok.cab,ok.hd,ok.frames,ok.stk,ok.exf,ok.bs,ok.bsz,ok.noex,ok.exfs,ok.funs,ok.frf⟩
section
variable {X:Cx}{pins:List (Addr×Obj)}{σ:St}{H:Hp}{s:Shared}{E:Value->Shared->Prop}
theorem Inv.wish (I:Inv X pins σ H s) (E:Value->Shared->Prop):Inv (X.wish E) pins σ H s:=⟨I.ok.wish E,I.os,I.bare,I.base,I.loc,I.cell,I.free,I.freeC,I.pin,I.hok,I.len⟩
theorem Inv.unwish (I:Inv (X.wish E) pins σ H s):Inv X pins σ H s:=⟨I.ok.unwish,I.os,I.bare,I.base,I.loc,I.cell,I.free,I.freeC,I.pin,I.hok,I.len⟩
theorem SP.unwish {D:Ends}{f:Flow}{s':Shared} (h:SP (X.wish E) pins D f s'):SP X pins D f s':=by
  cases f with
  | next=>obtain ⟨σ',H',I,q⟩:=h;exact ⟨σ',H',I.unwish,q⟩
  | brk=>obtain ⟨σ',H',I,q⟩:=h;exact ⟨σ',H',I.unwish,q⟩
  | cont=>obtain ⟨σ',H',I,q⟩:=h;exact ⟨σ',H',I.unwish,q⟩
  | ret u=>obtain ⟨v,σ',H',I,r,q⟩:=h;exact ⟨v,σ',H',I.unwish,r,q⟩
theorem PE.nox {e:Expr}{t:TE} (h:PE X.nox e t):PE X e t:=fun pins s σ H Q I hw=>
  wpAny_mono (h pins s σ H Q (I.wish _) hw) (fun _ _ ⟨v,H',I',r,q⟩=>⟨v,H',I'.unwish,r,q⟩) fun _ _ z=>False.elim z
theorem PT.nox {e:Expr}{t:TT} (h:PT X.nox e t):PT X e t:=fun pins s σ H Q I hw=>
  wpAny_mono (h pins s σ H Q (I.wish _) hw) (fun _ _ ⟨H',I',q⟩=>⟨H',I'.unwish,q⟩) fun _ _ z=>False.elim z
theorem PSs.nox {st:List Stmt}{t:TS} (h:PSs X.nox st t):PSs X st t:=fun pins s σ H D I hw=>
  wpAny_mono (h pins s σ H D (I.wish _) hw) (fun _ _ q=>q.unwish) fun _ _ z=>False.elim z
end
section
variable {X:Cx}{st:Stmt}{rest:List Stmt}{t u:TS}{e:Expr}{te:TE}{pos:Pos}
def tNext:TS:=fun D σ H=>D.nx σ H
def tSeq (t u:TS):TS:=fun D σ H=>t {D with nx:=u D} σ H
theorem zms:PSs X [] tNext:=fun _ _ σ H _ I h=>wpAny_execs_nil ⟨σ,H,I,h⟩
theorem zha (h1:PS X st t) (h2:PSs X rest u):PSs X (st::rest) (tSeq t u):=by
  intro pins s σ H D I h
  refine wpAny_execs_cons (thn (h1 pins s σ H {D with nx:=u D} I h) fun f s1 q=>?_)
  cases f with
  | next =>
    obtain ⟨σ',H',I',q⟩:=q
    exact h2 pins s1 σ' H' D I' q
  | ret v=>exact q
  | brk=>exact q
  | cont=>exact q
theorem zsz:PS X (.Pass pos) tNext:=fun _ _ σ H _ I h=>wpAny_Pass ⟨σ,H,I,h⟩
theorem Inv.quiet {pins:List (Addr×Obj)}{σ:St}{H:Hp}{s:Shared} (I:Inv X pins σ H s):interactive X.env=false:=by simp [interactive,I.ok.kind]
def tDrop (te:TE):TS:=fun D σ H=>te σ H fun _ H1=>D.nx σ H1
theorem zs0 (he:PE X e te) (hs:swapsWith e none pos.line X.env=pure false:=by rfl):PS X (.Expr e pos) (tDrop te):=by
  intro pins s σ H D I h
  exact wpAny_Expr_any (thn (he pins s σ H _ I h) fun v s1 ⟨x,H1,I1,r1,q1⟩=>⟨σ,H1,I1,q1⟩) I.quiet hs
def tRet (te:TE):TS:=fun D σ H=>te σ H D.rt
theorem ps_ret (he:PE X e te):PS X (.Return (some e) pos) (tRet te):=by
  intro pins s σ H D I h
  exact wpAny_Return_some (thn (he pins s σ H _ I h) fun v s1 ⟨x,H1,I1,r1,q1⟩=>⟨x,σ,H1,I1,r1,q1⟩)
def tIfS (c:TT) (t u:TS):TS:=fun D σ H=>c σ H fun b H1=>if b=true then t D σ H1 else u D σ H1
theorem ps_if {c:Expr}{a b:List Stmt}{tc:TT} (hc:PT X c tc) (ha:PSs X a t) (hb:PSs X b u):PS X (.If c a b pos) (tIfS tc t u):=by
  intro pins s σ H D I h
  refine wpAny_If (thn (hc pins s σ H _ I h) fun d s1 ⟨H1,I1,q1⟩=>?_)
  cases d with
  | true=>exact ha pins s1 σ H1 D I1 q1
  | false=>exact hb pins s1 σ H1 D I1 q1
end
abbrev TG:=V->St->Hp->(St->Hp->Prop)->Prop
abbrev TGs:=List V->St->Hp->(St->Hp->Prop)->Prop
def PG (X:Cx) (target:Expr) (t:TG):Prop:=
  ∀ (pins : List (Addr × Obj)) (s : Shared) (σ : St) (H : Hp) (v : V) (u : Value) (Q : St -> Hp -> Prop), Inv X pins σ H s -> RelV v u -> t v σ H Q ->
    wpAny (model X.prog X.w) X.A (assign target X.env u) (fun _ s'=>∃ σ' H',Inv X pins σ' H' s' /\ Q σ' H') X.xe s
def PGs (X:Cx) (ts:List Expr) (t:TGs):Prop:=
  ∀ (pins : List (Addr × Obj)) (s : Shared) (σ : St) (H : Hp) (vs : List V) (us : List Value) (Q : St -> Hp -> Prop), Inv X pins σ H s -> Vals vs us -> t vs σ H Q ->
    wpAny (model X.prog X.w) X.A (assignInOrder ((assignEach ts X.env).map (·.2)) us) (fun _ s'=>∃ σ' H',Inv X pins σ' H' s' /\ Q σ' H') X.xe s
abbrev TSet:=V->V->V->Hp->(Hp->Prop)->Prop
def PSet (X:Cx) (t:TSet):Prop:=
  ∀ (pins : List (Addr × Obj)) (s : Shared) (σ : St) (H : Hp) (o i v : V) (ov iv u : Value) (Q : Hp -> Prop), Inv X pins σ H s -> RelV o ov -> RelV i iv -> RelV v u -> t o i v H Q ->
    wpAny (model X.prog X.w) X.A (setItem ov iv u) (fun _ s'=>∃ H',Inv X pins σ H' s' /\ Q H') X.xe s
section
variable {X:Cx}{pos:Pos}
def gName (i:Nat):TG:=fun v σ H Q=>Q (σ.set i (some v)) H
theorem zmv {i:Nat}{x:Str} (hN:X.N.Nodup) (hi:X.N[i]?=some x) (hx:Loc X.env.scope x) (hf:X.fn x=true \/ X.env.scope.names.lookup x=some .local:=by first | exact .inl rfl | exact .inr rfl | assumption):PG X (.Name x pos) (gName i):=by
  intro pins s σ H v u Q I r h
  exact wpAny_assign_Name (zqb I hN hi hx r (fun s' I'=>⟨_,H,I',h⟩) hf)
def zad:TGs:=fun vs σ H Q=>vs=[] /\ Q σ H
def zaa (t:TG) (u:TGs):TGs:=fun vs σ H Q=>∃ v r,vs=v::r /\ t v σ H fun σ' H'=>u r σ' H' Q
theorem zs5:PGs X [] zad:=by
  intro pins s σ H vs us Q I r h
  obtain ⟨e,h⟩:=h
  subst e
  cases r
  exact assignInOrder_nil ⟨σ,H,I,h⟩
theorem zqo {e:Expr}{es:List Expr}{t:TG}{u:TGs} (h1:PG X e t) (h2:PGs X es u)
    (hs:(assignEach (e::es) X.env).map (·.2)=assign e X.env::(assignEach es X.env).map (·.2):=by rfl):PGs X (e::es) (zaa t u):=by
  intro pins s σ H vs us Q I r h
  obtain ⟨v,vr,e1,h⟩:=h
  subst e1
  cases r with
  | cons r rr =>
    rw [hs]
    refine assignInOrder_cons (thn (h1 pins s σ H _ _ _ I r h) fun _ s1 ⟨σ1,H1,I1,q1⟩=>?_)
    exact h2 pins s1 σ1 H1 _ _ Q I1 rr q1
def zby (K:PySem.W.Frag) (n:Nat) (t:TGs):TG:=fun v σ H Q=>∃ a xs,v=.ref a /\ SqT K H a xs /\ xs.length=n /\ t xs σ H Q
theorem pg_tup {es:List Expr}{k:Nat}{t:TGs}{n:Nat} (hc:X.calm=true) (h:PGs X es t)
    (hn:(assignEach es X.env).length=n:=by rfl) (hst:(assignEach es X.env).findIdx? (·.1)=none:=by rfl):PG X (.Tuple es k pos) (zby X.K n t):=by
  intro pins s σ H v u Q I r hw
  obtain ⟨a,xs,e1,hq,hl,hw⟩:=hw
  subst e1
  cases r
  obtain ⟨its,rv,ht,hz⟩:=I.tuple hq
  refine assign_Tuple_tuple (I.ok.hd hc) ht (by simp [hn,<- hl,rv.length]) hst fun h' hx=>?_
  have I1:Inv X pins σ H {s with heap:=h'}:=I.kept (t':=s.toks) fun b o e=>hx b o (Nat.ne_of_lt (Heap.lt_size e)) e
  exact h pins _ σ H xs _ Q I1 (by simpa using rv) hw
def gSub (to ti:TE) (t:TSet):TG:=fun v σ H Q=>to σ H fun o H1=>ti σ H1 fun i H2=>t o i v H2 fun H3=>Q σ H3
theorem pg_sub {o i:Expr}{to ti:TE}{t:TSet} (ho:PE X o to) (hi:PE X i ti) (hs:PSet X t)
    (ha:∀ v,assign (.Subscript o i pos) X.env v=(do
      let ov <- holding [v] (eval o X.env)
      let iv <- holding [v,ov] (eval i X.env)
      standAt pos
      holding [v,ov,iv] (setItem ov iv v)
      release [v,ov,iv] []):=by intro _;rfl):PG X (.Subscript o i pos) (gSub to ti t):=by
  intro pins s σ H v u Q I r h
  rw [ha]
  refine wpAny_bind (wpAny_holding (thn (ho pins s σ H _ I h) fun ov s1 ⟨x,H1,I1,r1,q1⟩=>?_))
  refine wpAny_bind (wpAny_holding (thn (hi pins s1 σ H1 _ I1 q1) fun iv s2 ⟨y,H2,I2,r2,q2⟩=>?_))
  refine wpAny_bind (wpAny_standAt (wpAny_bind (wpAny_holding (thn (hs pins s2 σ H2 x y v ov iv u _ I2 r1 r2 r q2) fun _ s3 ⟨H3,I3,q3⟩=>?_))))
  exact wpAny_release ⟨σ,H3,I3,q3⟩
def tAsg (te:TE) (g:TG):TS:=fun D σ H=>te σ H fun x H1=>g x σ H1 D.nx
theorem zo0 {tg e:Expr}{te:TE}{g:TG} (he:PE X e te) (hg:PG X tg g) (hs:swapsWithSole [tg] e pos.line X.env=pure false:=by rfl) (hw:swappedStores [tg] e X.env=pure none:=by rfl)
    (h1:(assignEach [tg] X.env).map (·.2)=[assign tg X.env]:=by rfl):PS X (.Assign [tg] e pos) (tAsg te g):=by
  intro pins s σ H D I h
  refine wpAny_Assign_stores (thn (he pins s σ H _ I h) fun v s1 ⟨x,H1,I1,r1,q1⟩=>?_) hs hw
  rw [h1]
  exact thn (hg pins s1 σ H1 x v _ I1 r1 q1) fun _ s2 q=>q
end
section
variable {X:Cx}{pos:Pos}
end
structure It where
  go:Nat->Hp->Prop
  yld:Nat->Hp->V->Hp->Prop
  stop:Nat->Hp->Prop
def zdu (X:Cx) (pins:List (Addr×Obj)) (H:Hp) (b:Addr):Prop:=
  H b=none /\ b≠X.env.locals /\ b∉X.fs /\ (b∈X.ex \/ X.s₀.heap.objs.size≤b) /\ (∀ x c,X.env.cells.lookup x=some c->c≠b) /\ ∀ p∈X.pn++pins,p.1≠b
theorem Inv.fpOk {X:Cx}{pins:List (Addr×Obj)}{σ:St}{H H':Hp}{s:Shared}{b:Addr} (I:Inv X pins σ H s) (hb:s.heap.objs.size≤b) (hn:H' b=none):zdu X pins H' b:=by
  refine ⟨hn,Nat.ne_of_gt (Nat.lt_of_lt_of_le I.lt hb),I.nofs hb,.inr (Nat.le_trans I.sz hb),fun x c e z=>?_,fun p hp z=>?_⟩
  · obtain ⟨v,q⟩:=I.cell x c e
    exact absurd (Nat.lt_of_lt_of_le q.lt (by rw [z];exact hb)) (Nat.lt_irrefl _)
  · exact absurd (Nat.lt_of_lt_of_le (Heap.lt_size (I.pin p hp).1) (by rw [z];exact hb)) (Nat.lt_irrefl _)
structure Turn (P:Program) (w:World) (K:PySem.W.Frag) (tg:Expr) (J:It) (fp:List Addr) (it:Addr) (tn:Nat->Heap->Prop):Prop where
  mem:it∈fp
  obj:∀ i h,tn i h->∀ b∈fp,∃ o,h.get? b=some o /\ ∀ v,o.data≠.cell v
  keep:∀ i h h',tn i h->(∀ b∈fp,∀ o,h.get? b=some o->h'.get? b=some o)->tn i h'
  item:∀ (X:Cx),X.prog=P->X.w=w->X.K=K->X.calm=true->∀ (i:Nat) (pins:List (Addr×Obj)) (s:Shared) (σ:St) (H:Hp) (E:Value->Shared->Prop),Inv X pins σ H s->(∀ b∈fp,zdu X pins H b)->tn i s.heap->J.go i H->
    wpAny (model P w) X.A (pyNext (.ref it)) (fun r s1=>∃ u,r=some u /\
      wpAny (model P w) X.A (letOwnedTupleGo tg (.ref it) u) (fun _ s2=>∃ x H',Inv X pins σ H' s2 /\ RelV x u /\ J.yld i H x H' /\ tn (i+1) s2.heap /\ ∀ b∈fp,H' b=none) E s1) E s
  done:∀ (X:Cx),X.prog=P->X.w=w->X.K=K->X.calm=true->∀ (i:Nat) (pins:List (Addr×Obj)) (s:Shared) (σ:St) (H:Hp) (E:Value->Shared->Prop),Inv X pins σ H s->(∀ b∈fp,zdu X pins H b)->tn i s.heap->J.stop i H->
    wpAny (model P w) X.A (pyNext (.ref it)) (fun r s1=>r=none /\ Inv X pins σ H s1) E s
  self:∀ (A:Around) (i:Nat) (s:Shared) (Q:Value->Shared->Prop) (E:Value->Shared->Prop),tn i s.heap->Q (.ref it) s->wpAny (model P w) A (pyIter (.ref it)) Q E s
abbrev TI:=St->Hp->(It->Hp->Prop)->Prop
def PIE (X:Cx) (pins:List (Addr×Obj)) (σ:St) (tg:Expr) (R:It->Hp->Prop) (itv:Value) (s2:Shared):Prop:=
  ∃ (it:Addr) (fp:List Addr) (tn:Nat->Heap->Prop) (J:It) (H':Hp),itv=.ref it /\ Inv X pins σ H' s2 /\ Turn X.prog X.w X.K tg J fp it tn /\ tn 0 s2.heap /\ (∀ b∈fp,zdu X pins H' b) /\ R J H'
def PI (X:Cx) (tg iter:Expr) (wi:TI):Prop:=
  ∀ (pins : List (Addr × Obj)) (s : Shared) (σ : St) (H : Hp) (R : It -> Hp -> Prop), Inv X pins σ H s -> wi σ H R ->
    wpAny (model X.prog X.w) X.A (eval iter X.env) (fun v s1=>wpAny (model X.prog X.w) X.A (pyIter v) (PIE X pins σ tg R) X.xe s1) X.xe s
theorem zkq {M:Model}{A:Around}{E:Value->Shared->Prop}{s:Shared}{tg:Expr}{it:Addr}{u:Value}{o:Obj}{n:String}{vs:Array Value}{Q:Unit->Shared->Prop} (ho:s.heap.get? it=some o) (hc:o.cls=.type n) (hd:o.data=.fields vs)
    (hn:["enumerate","zip","dict_itemiterator","dict_reverseitemiterator","odict_iterator","itertools.zip_longest","itertools.pairwise"].contains n=false) (hQ:Q () s):wpAny M A (letOwnedTupleGo tg (.ref it) u) Q E s:=by
  unfold letOwnedTupleGo
  cases tg<;>first
    | exact wpAny_pure hQ
    | (cases u<;>first
        | exact wpAny_pure hQ
        | (refine wpAny_bind (wpAny_load ho ?_)
           rw [hc,hd]
           show wpAny M A (if (["enumerate","zip","dict_itemiterator","dict_reverseitemiterator","odict_iterator","itertools.zip_longest","itertools.pairwise"].contains n&&vs[0]?==some (rawInt _))=true then _ else _) Q E s
           rw [if_neg (by intro h;rw [hn,Bool.false_and] at h;cases h)]
           exact wpAny_pure hQ))
def Itl (K:PySem.W.Frag) (a:Addr):It:=
  ⟨fun i H=>∃ xs x,SqL K H a xs /\ xs[i]?=some x,fun i H x H'=>H'=H /\ ∀ xs,SqL K H a xs->xs[i]?=some x,fun i H=>∃ xs,SqL K H a xs /\ xs.length≤i⟩
def Itt (K:PySem.W.Frag) (a:Addr):It:=
  ⟨fun i H=>∃ xs x,SqT K H a xs /\ xs[i]?=some x,fun i H x H'=>H'=H /\ ∀ xs,SqT K H a xs->xs[i]?=some x,fun i H=>∃ xs,SqT K H a xs /\ xs.length≤i⟩
def Itr (lo:Int) (n:Nat):It:=⟨fun i _=>i < n,fun i H x H'=>H'=H /\ x=.int (lo+i),fun i _=>n≤i⟩
theorem zon {P:Program}{w:World}{K:PySem.W.Frag}{tg:Expr} (a it:Addr):Turn P w K tg (Itl K a) [it] it (fun i h=>h.IsListIter it a i) where
  mem:=by simp
  obj:=fun i h st b hb=>by
    have e:b=it:=by simpa using hb
    subst e
    obtain ⟨o,e,c,d⟩:=st
    exact ⟨o,e,fun v z=>by rw [d] at z;cases z⟩
  keep:=fun i h h' st k=>st.at fun o e=>k it (by simp) o e
  item:=by
    intro X hP hw hK hc i pins s σ H E I hf st hg
    subst hP hw hK
    obtain ⟨xs,x,hq,hx⟩:=hg
    obtain ⟨its,rv,p,hz⟩:=I.list hq
    obtain ⟨u,hu,ru⟩:=rv.get hx
    obtain ⟨f0,f1,f2,f3,f4,f5⟩:=hf it (by simp)
    refine wpAny_pyNext_list_item st p.isList (x:=u) (by simpa using hu) fun h' st' sb=>?_
    have I1:Inv X pins σ H {s with heap:=h'}:=I.turned (t':=s.toks) (fun b o hb e=>(sb.2 b hb).trans e) f0 f1 f3 f4 f5
    obtain ⟨o,e,c,d⟩:=id st'
    exact ⟨u,rfl,zkq (s:={s with heap:=h'}) e c d (by decide) ⟨x,H,I1,ru,⟨rfl,fun ys hy=>by rw [I.list_inj hy hq];exact hx⟩,st',fun b hb=>(hf b hb).1⟩⟩
  done:=by
    intro X hP hw hK hc i pins s σ H E I hf st hg
    subst hP hw hK
    obtain ⟨xs,hq,hx⟩:=hg
    obtain ⟨its,rv,p,hz⟩:=I.list hq
    obtain ⟨f0,f1,f2,f3,f4,f5⟩:=hf it (by simp)
    have hl:=rv.length
    exact wpAny_pyNext_list_end (I.ok.hd hc) st p.isList (by simp;omega) fun h' eb=>⟨rfl,I.turned (t':=s.toks) (fun b o hb e=>eb b o hb e) f0 f1 f3 f4 f5⟩
  self:=fun _ _ _ _ _ st h=>wpAny_pyIter_listiter st h
theorem zm6 {P:Program}{w:World}{K:PySem.W.Frag}{tg:Expr} (a it:Addr):Turn P w K tg (Itt K a) [it] it (fun i h=>h.IsTupleIter it a i) where
  mem:=by simp
  obj:=fun i h st b hb=>by
    have e:b=it:=by simpa using hb
    subst e
    obtain ⟨o,e,c,d⟩:=st
    exact ⟨o,e,fun v z=>by rw [d] at z;cases z⟩
  keep:=fun i h h' st k=>st.at fun o e=>k it (by simp) o e
  item:=by
    intro X hP hw hK hc i pins s σ H E I hf st hg
    subst hP hw hK
    obtain ⟨xs,x,hq,hx⟩:=hg
    obtain ⟨its,rv,p,hz⟩:=I.tuple hq
    obtain ⟨u,hu,ru⟩:=rv.get hx
    obtain ⟨f0,f1,f2,f3,f4,f5⟩:=hf it (by simp)
    refine wpAny_pyNext_tuple_item st (show s.heap.IsTuple a its.toArray from p) (x:=u) (by simpa using hu) fun h' st' sb=>?_
    have I1:Inv X pins σ H {s with heap:=h'}:=I.turned (t':=s.toks) (fun b o hb e=>(sb.2 b hb).trans e) f0 f1 f3 f4 f5
    obtain ⟨o,e,c,d⟩:=id st'
    exact ⟨u,rfl,zkq (s:={s with heap:=h'}) e c d (by decide) ⟨x,H,I1,ru,⟨rfl,fun ys hy=>by rw [I.tuple_inj hy hq];exact hx⟩,st',fun b hb=>(hf b hb).1⟩⟩
  done:=by
    intro X hP hw hK hc i pins s σ H E I hf st hg
    subst hP hw hK
    obtain ⟨xs,hq,hx⟩:=hg
    obtain ⟨its,rv,p,hz⟩:=I.tuple hq
    obtain ⟨f0,f1,f2,f3,f4,f5⟩:=hf it (by simp)
    have hl:=rv.length
    exact wpAny_pyNext_tuple_end (I.ok.hd hc) st (show s.heap.IsTuple a its.toArray from p) (by simp;omega) fun h' eb=>⟨rfl,I.turned (t':=s.toks) (fun b o hb e=>eb b o hb e) f0 f1 f3 f4 f5⟩
  self:=fun _ _ _ _ _ st h=>wpAny_pyIter_tupleiter st h
theorem zm7 {P:Program}{w:World}{K:PySem.W.Frag}{tg:Expr} (it:Addr) (lo:Int) (n:Nat):Turn P w K tg (Itr lo n) [it] it (fun i h=>IsRangeIter h it (lo+(i:Nat) * 1) ((n:Int) - (i:Nat)) 1) where
  mem:=by simp
  obj:=fun i h st b hb=>by
    have e:b=it:=by simpa using hb
    subst e
    exact ⟨_,st,fun v z=>by
      have z':Data.fields _=Data.cell v:=z
      cases z'⟩
  keep:=fun i h h' st k=>k it (by simp) _ st
  item:=by
    intro X hP hw hK hc i pins s σ H E I hf st hg
    subst hP hw hK
    obtain ⟨f0,f1,f2,f3,f4,f5⟩:=hf it (by simp)
    have W:=Walks.range (prog:=X.prog) (w:=X.w) (I.ok.hd hc) it lo 1 n
    refine W.item i s _ _ hg st fun v h' tk hv st' kk=>?_
    obtain ⟨t,rfl⟩:=hv
    have I1:Inv X pins σ H {s with heap:=h',toks:=tk}:=I.turned (fun b o hb e=>kk b o (by simpa using hb) e) f0 f1 f3 f4 f5
    refine ⟨_,rfl,zkq (s:={s with heap:=h',toks:=tk}) (n:="range_iterator") st' rfl rfl (by decide) ⟨.int (lo+i),H,I1,⟨t,?_⟩,⟨rfl,rfl⟩,st',fun b hb=>(hf b hb).1⟩⟩
    rw [Int.mul_one]
  done:=by
    intro X hP hw hK hc i pins s σ H E I hf st hg
    subst hP hw hK
    obtain ⟨f0,f1,f2,f3,f4,f5⟩:=hf it (by simp)
    exact wpAny_pyNext_range_end (I.ok.hd hc) st (by have:n≤i:=hg;omega) fun h' eb=>⟨rfl,I.turned (t':=s.toks) (fun b o hb e=>eb b o hb e) f0 f1 f3 f4 f5⟩
  self:=fun _ _ _ _ _ st h=>wpAny_pyIter_rangeiter st h
end L2
namespace L2
open PySem PySem.Spec PyProof.Rows
section
variable {X:Cx}{tg:Expr}
def iList (K:PySem.W.Frag) (tl:TE):TI:=fun σ H R=>tl σ H fun x H1=>∃ a,x=.ref a /\ (∃ xs,SqL K H1 a xs) /\ R (Itl K a) H1
def iTup (K:PySem.W.Frag) (tl:TE):TI:=fun σ H R=>tl σ H fun x H1=>∃ a,x=.ref a /\ (∃ xs,SqT K H1 a xs) /\ R (Itt K a) H1
theorem zs4 {l:Expr}{tl:TE} (hl:PE X l tl):PI X tg l (iList X.K tl):=by
  intro pins s σ H R I h
  refine thn (hl pins s σ H _ I h) fun v s1 ⟨x,H1,I1,r1,q1⟩=>?_
  obtain ⟨a,e,⟨xs,hq⟩,q⟩:=q1
  subst e
  cases r1
  obtain ⟨its,rv,p,hz⟩:=I1.list hq
  refine wpAny_pyIter_list p.isList ?_
  refine ⟨s1.heap.objs.size,[s1.heap.objs.size],_,_,H1,rfl,I1.kept (t':=s1.toks) fun b o e=>Heap.get?_push_of_some _ e,zon a _,⟨_,Heap.get?_push_size _ rfl,rfl,rfl⟩,fun b hb=>?_,q⟩
  have e:b=s1.heap.objs.size:=by simpa using hb
  subst e
  exact I1.fpOk (Nat.le_refl _) (I1.hok.fresh (Nat.le_refl _))
theorem pi_tup {l:Expr}{tl:TE} (hl:PE X l tl):PI X tg l (iTup X.K tl):=by
  intro pins s σ H R I h
  refine thn (hl pins s σ H _ I h) fun v s1 ⟨x,H1,I1,r1,q1⟩=>?_
  obtain ⟨a,e,⟨xs,hq⟩,q⟩:=q1
  subst e
  cases r1
  obtain ⟨its,rv,p,hz⟩:=I1.tuple hq
  refine wpAny_pyIter_tuple (show s1.heap.IsTuple a its.toArray from p) ?_
  refine ⟨s1.heap.objs.size,[s1.heap.objs.size],_,_,H1,rfl,I1.kept (t':=s1.toks) fun b o e=>Heap.get?_push_of_some _ e,zm6 a _,⟨_,Heap.get?_push_size _ rfl,rfl,rfl⟩,fun b hb=>?_,q⟩
  have e:b=s1.heap.objs.size:=by simpa using hb
  subst e
  exact I1.fpOk (Nat.le_refl _) (I1.hok.fresh (Nat.le_refl _))
theorem zql {pins:List (Addr×Obj)}{σ:St}{H:Hp}{s:Shared}{R:It->Hp->Prop}{E:Value->Shared->Prop}{lo hi:Int}{t u v:Tok}{tk:Nat} (I:Inv X pins σ H s) (h1:-(2 ^ 62)≤lo) (h2:lo < 2 ^ 62) (h3:-(2 ^ 62)≤hi) (h4:hi < 2 ^ 62)
    (q:R (Itr lo (hi - lo).toNat) H):wpAny (model X.prog X.w) X.A (pyIter (.ref s.heap.objs.size)) (PIE X pins σ tg R) E {s with heap:=s.heap.push {cls:=.type "range",data:=.fields #[.int lo t,.int hi u,.int 1 v]},toks:=tk}:=by
  refine wpAny_pyIter_range (IsRange.new ..) (small_one h1 h2 h3 h4) ?_
  have I1:Inv X pins σ H {s with heap:=s.heap.push {cls:=.type "range",data:=.fields #[.int lo t,.int hi u,.int 1 v]},toks:=tk}:=I.kept fun b o e=>Heap.get?_push_of_some _ e
  refine ⟨(s.heap.push {cls:=.type "range",data:=.fields #[.int lo t,.int hi u,.int 1 v]}).objs.size,[(s.heap.push {cls:=.type "range",data:=.fields #[.int lo t,.int hi u,.int 1 v]}).objs.size],_,_,H,rfl,
    I1.kept (t':=tk) fun b o e=>Heap.get?_push_of_some _ e,zm7 _ lo (hi - lo).toNat,?_,fun b hb=>?_,q⟩
  · have e1:lo+((0:Nat):Int) * 1=lo:=by simp
    have e2:(((hi - lo).toNat:Nat):Int) - ((0:Nat):Int)=Builtin.Range.rangeSize lo hi 1:=by rw [rangeSize_one];split<;>omega
    show IsRangeIter _ _ (lo+((0:Nat):Int) * 1) ((((hi - lo).toNat:Nat):Int) - ((0:Nat):Int)) 1
    rw [e1,e2]
    exact Heap.get?_push_size _ rfl
  · have e:b=(s.heap.push {cls:=.type "range",data:=.fields #[.int lo t,.int hi u,.int 1 v]}).objs.size:=by simpa using hb
    subst e
    exact I1.fpOk (Nat.le_refl _) (I1.hok.fresh (Nat.le_refl _))
def iRng1 (ta:TA):TI:=fun σ H R=>ta σ H fun vs H1=>∃ j:Int,vs=[.int j] /\ -(2 ^ 62)≤j /\ j < 2 ^ 62 /\ R (Itr 0 j.toNat) H1
theorem zo2 {a:Expr}{ta:TA}{p pos:Pos} (hg:Gl X "range") (hm:X.mg "range"=none) (ha:PA X [a] ta) (hs:starEach [a] X.env=[(false,eval a X.env)]:=by rfl):PI X tg (.Call (.Name "range" p) [a] [] pos) (iRng1 ta):=by
  intro pins s σ H R I h
  refine Call_ (zfi I hg hm boot_range (PyProof.Rows.callWith_type1 (thn (ha pos pins s σ H _ I h) fun us s1 ⟨vs,H1,I1,r1,q1⟩=>?_) hs rfl))
  obtain ⟨j,e,q1,q2,q⟩:=q1
  subst e
  cases r1 with
  | cons r rr =>
    cases rr
    obtain ⟨t,rfl⟩:=r
    exact call_range_1 (zql I1 (by omega) (by omega) q1 q2 (by simpa using q))
def tFor (wi:TI) (g:TG) (tb:TS):TS:=fun D σ H=>wi σ H fun J H1=>∃ W:Nat->Nat->St->Hp->Prop,(∃ m,W 0 m σ H1) /\ ∀ i m σ H,W i m σ H->
  (J.stop i H /\ D.nx σ H) \/ (J.go i H /\ ∃ N:St->Hp->Prop,(∀ σ' H',N σ' H'->∃ m',m' < m /\ W (i+1) m' σ' H') /\ ∀ x H',J.yld i H x H'->g x σ H' fun σ2 H2=>tb {D with nx:=N,ct:=N,bk:=D.nx} σ2 H2)
def zhs (fp:List Addr) (h:Heap):List (Addr×Obj):=fp.filterMap fun b=>(h.get? b).map fun o=>(b,o)
theorem zem {fp:List Addr}{h:Heap}{b:Addr}{o:Obj} (hb:b∈fp) (e:h.get? b=some o):(b,o)∈zhs fp h:=List.mem_filterMap.mpr ⟨b,hb,by rw [e];rfl⟩
theorem zo8 {fp:List Addr}{h:Heap}{p:Addr×Obj} (hp:p∈zhs fp h):p.1∈fp /\ h.get? p.1=some p.2:=by
  obtain ⟨b,hb,e⟩:=List.mem_filterMap.mp hp
  cases q:h.get? b with
  | none=>rw [q] at e;cases e
  | some o =>
    rw [q] at e
    have e':(b,o)=p:=Option.some.inj e
    subst e'
    exact ⟨hb,q⟩
theorem Inv.pinned {pins:List (Addr×Obj)}{σ:St}{H:Hp}{s:Shared}{fp:List Addr} (I:Inv X pins σ H s) (hf:∀ b∈fp,zdu X pins H b) (ho:∀ b∈fp,∃ o,s.heap.get? b=some o /\ ∀ v,o.data≠.cell v):Inv X (pins++zhs fp s.heap) σ H s:=
  I.pins_of fun p hp=>(List.mem_append.mp hp).elim (fun z=>I.pin p (List.mem_append_right _ z)) fun z=>by
    obtain ⟨hb,e⟩:=zo8 z
    obtain ⟨f0,f1,f2,_⟩:=hf p.1 hb
    obtain ⟨o,e',d⟩:=ho p.1 hb
    rw [e] at e';cases e'
    exact ⟨e,f0,f1,f2,d⟩
theorem Inv.unpinned {pins pl:List (Addr×Obj)}{σ:St}{H:Hp}{s:Shared} (I:Inv X (pins++pl) σ H s):Inv X pins σ H s:=I.pins_of fun p hp=>I.pin p (List.mem_append_right _ (List.mem_append_left _ hp))
theorem ps_for {iter:Expr}{body:List Stmt}{wi:TI}{g:TG}{tb:TS}{pos:Pos} (hp:PassesOwn (model X.prog X.w) X.A X.env X.xe) (hc:X.calm=true) (hi:PI X tg iter wi) (hg:PG X tg g) (hb:PSs X body tb)
    (hs:∀ x,foldedSetIterable iter X.env x=pure x:=by intro _;rfl):PS X (.For tg iter body [] pos) (tFor wi g tb):=by
  intro pins s σ H D I h
  refine wpAny_For (thn (hi pins s σ H _ I h) fun v s1 h1=>thn h1 fun itv s2 h2=>?_) hs
  obtain ⟨it,fp,tn,J,H2,e,I2,T,st2,f2,W,⟨m0,w0⟩,turn⟩:=h2
  subst e
  have stat:∀ {H':Hp},(∀ b∈fp,H' b=none)->∀ b∈fp,zdu X pins H' b:=fun hn b hb=>⟨hn b hb,(f2 b hb).2⟩
  refine codeAny_forLoop_any (fun n s'=>∃ i σ' H',Inv X pins σ' H' s' /\ tn i s'.heap /\ (∀ b∈fp,H' b=none) /\ W i n σ' H') ?_ m0 ⟨0,σ,H2,I2,st2,fun b hb=>(f2 b hb).1,w0⟩
  rintro n s3 ⟨i,σ3,H3,I3,st3,fr3,w3⟩
  rcases turn i n σ3 H3 w3 with ⟨stop,qn⟩ | ⟨go,N,hN,step⟩
  · refine wpAny_passesOwn hp (thn (T.done X rfl rfl rfl hc i pins s3 σ3 H3 X.xe I3 (stat fr3) st3 stop) fun r s4 ⟨hr,I4⟩=>?_)
    subst hr
    exact wpAny_execs_nil ⟨σ3,H3,I4,qn⟩
  · refine wpAny_passesOwn hp (thn (T.item X rfl rfl rfl hc i pins s3 σ3 H3 X.xe I3 (stat fr3) st3 go) fun r s4 ⟨u,hr,h4⟩=>?_)
    subst hr
    refine wpAny_passesOwn hp (thn h4 fun _ s5 ⟨x,H5,I5,r5,y5,st5,fr5⟩=>?_)
    have I5':=I5.pinned (stat fr5) (T.obj _ _ st5)
    refine wpAny_passesOwn hp (thn (hg _ s5 σ3 H5 x u _ I5' r5 (step x H5 y5)) fun _ s6 ⟨σ6,H6,I6,q6⟩=>?_)
    refine wpAny_passesOwn hp (thn (hb _ s6 σ6 H6 _ I6 q6) fun f s7 q7=>?_)
    have again:∀ {σ7:St}{H7:Hp},Inv X (pins++zhs fp s5.heap) σ7 H7 s7->N σ7 H7->∃ m,m < n /\ ∃ i σ' H',Inv X pins σ' H' s7 /\ tn i s7.heap /\ (∀ b∈fp,H' b=none) /\ W i m σ' H':=fun {σ7 H7} I7 n7=>by
      obtain ⟨m',hm,w7⟩:=hN σ7 H7 n7
      refine ⟨m',hm,i+1,σ7,H7,I7.unpinned,T.keep _ _ _ st5 fun b hb o e=>(I7.pin (b,o) (List.mem_append_right _ (List.mem_append_right _ (zem hb e)))).1,fun b hb=>?_,w7⟩
      obtain ⟨o,e,d⟩:=T.obj _ _ st5 b hb
      exact (I7.pin (b,o) (List.mem_append_right _ (List.mem_append_right _ (zem hb e)))).2.1
    cases f with
    | next=>obtain ⟨σ7,H7,I7,n7⟩:=q7;exact again I7 n7
    | cont=>obtain ⟨σ7,H7,I7,n7⟩:=q7;exact again I7 n7
    | brk=>obtain ⟨σ7,H7,I7,q7⟩:=q7;exact ⟨σ7,H7,I7.unpinned,q7⟩
    | ret v=>obtain ⟨x7,σ7,H7,I7,r7,q7⟩:=q7;exact ⟨x7,σ7,H7,I7.unpinned,r7,q7⟩
end
end L2
namespace L2
open PySem PySem.Spec PyProof.Rows
abbrev R2:=V->V->Hp->VK->Prop
def OpR (X:Cx) (f:Value->Value->Sem Value) (r:R2):Prop:=
  ∀ (pins : List (Addr × Obj)) (s : Shared) (σ : St) (H : Hp) (x y : V) (v u : Value) (Q : VK), Inv X pins σ H s -> RelV x v -> RelV y u -> r x y H Q ->
    wpAny (model X.prog X.w) X.A (f v u) (EP X pins σ Q) X.xe s
def zcn (X:Cx) (f:Value) (r:List V->Hp->VK->Prop):Prop:=
  ∀ (pins : List (Addr × Obj)) (s : Shared) (σ : St) (H : Hp) (xs : List V) (us : List Value) (Q : VK), Inv X pins σ H s -> Vals xs us -> r xs H Q ->
    wpAny (model X.prog X.w) X.A (call f us) (EP X pins σ Q) X.xe s
def TruR (X:Cx) (r:V->Hp->(Bool->Hp->Prop)->Prop):Prop:=
  ∀ (pins : List (Addr × Obj)) (s : Shared) (σ : St) (H : Hp) (x : V) (v : Value) (Q : Bool -> Hp -> Prop), Inv X pins σ H s -> RelV x v -> r x H Q ->
    wpAny (model X.prog X.w) X.A (truthy v) (TP X pins σ Q) X.xe s
def tOp (r:R2) (ta tb:TE):TE:=fun σ H Q=>ta σ H fun x H1=>tb σ H1 fun y H2=>r x y H2 Q
def rI (C:Int->Int->Prop) (g:Int->Int->V):R2:=fun x y H Q=>∃ i j,x=.int i /\ y=.int j /\ C i j /\ Q (g i j) H
def rI0 (g:Int->Int->V):R2:=fun x y H Q=>∃ i j,x=.int i /\ y=.int j /\ Q (g i j) H
section
variable {X:Cx}{a b c:Expr}{ta tb tc:TE}{pos:Pos}
theorem binT (ha:PE X a ta) (hb:PE X b tb) {pins:List (Addr×Obj)}{s:Shared}{σ:St}{H:Hp}{R:V->V->Hp->Prop} (I:Inv X pins σ H s)
    (h:ta σ H fun x H1=>tb σ H1 fun y H2=>R x y H2) {Q:Value->Shared->Prop}{f:Value->Value->Sem Value}
    (hf:∀ v u s2 x y H2,Inv X pins σ H2 s2->RelV x v->RelV y u->R x y H2->wpAny (model X.prog X.w) X.A (f v u) Q X.xe s2) :
    wpAny (model X.prog X.w) X.A (eval a X.env) (fun v s₁=>wpAny (model X.prog X.w) X.A (eval b X.env) (fun u s₂=>wpAny (model X.prog X.w) X.A (f v u) Q X.xe s₂) X.xe s₁) X.xe s:=by
  refine thn (ha pins s σ H _ I h) fun v s1 ⟨x,H1,I1,r1,q1⟩=>?_
  refine thn (hb pins s1 σ H1 _ I1 q1) fun u s2 ⟨y,H2,I2,r2,q2⟩=>?_
  exact hf v u s2 x y H2 I2 r1 r2 q2
theorem pe_op {op:Operator}{r:R2} (ho:OpR X (binaryOp op) r) (ha:PE X a ta) (hb:PE X b tb):PE X (.BinOp a op b pos) (tOp r ta tb):=by
  intro pins s σ H Q I h
  exact wpAny_BinOp (binT ha hb I h fun v u s2 x y H2 I2 rx ry q=>ho pins s2 σ H2 x y v u Q I2 rx ry q)
theorem opI {f:Value->Value->Sem Value}{C:Int->Int->Prop}{g:Int->Int->Int}
    (rule:∀ (i j:Int) (t u:Tok) (s:Shared) (Q:Value->Shared->Prop) (E:Value->Shared->Prop),C i j->Q (.int (g i j) s.toks) {s with toks:=s.toks+1}->wpAny (model X.prog X.w) X.A (f (.int i t) (.int j u)) Q E s) :
    OpR X f (rI C fun i j=>.int (g i j)):=by
  intro pins s σ H x y v u Q I rx ry h
  obtain ⟨i,j,rfl,rfl,hc,q⟩:=h
  obtain ⟨t,rfl⟩:=rx
  obtain ⟨t',rfl⟩:=ry
  exact rule i j t t' s _ _ hc ⟨.int (g i j),H,I.tok _,⟨_,rfl⟩,q⟩
theorem opI0 {f:Value->Value->Sem Value}{g:Int->Int->Int}
    (rule:∀ (i j:Int) (t u:Tok) (s:Shared) (Q:Value->Shared->Prop) (E:Value->Shared->Prop),Q (.int (g i j) s.toks) {s with toks:=s.toks+1}->wpAny (model X.prog X.w) X.A (f (.int i t) (.int j u)) Q E s) :
    OpR X f (rI0 fun i j=>.int (g i j)):=by
  intro pins s σ H x y v u Q I rx ry h
  obtain ⟨i,j,rfl,rfl,q⟩:=h
  obtain ⟨t,rfl⟩:=rx
  obtain ⟨t',rfl⟩:=ry
  exact rule i j t t' s _ _ ⟨.int (g i j),H,I.tok _,⟨_,rfl⟩,q⟩
theorem opB0 {f:Value->Value->Sem Value}{g:Int->Int->Bool}
    (rule:∀ (i j:Int) (t u:Tok) (s:Shared) (Q:Value->Shared->Prop) (E:Value->Shared->Prop),Q (.bool (g i j)) s->wpAny (model X.prog X.w) X.A (f (.int i t) (.int j u)) Q E s) :
    OpR X f (rI0 fun i j=>.bl (g i j)):=by
  intro pins s σ H x y v u Q I rx ry h
  obtain ⟨i,j,rfl,rfl,q⟩:=h
  obtain ⟨t,rfl⟩:=rx
  obtain ⟨t',rfl⟩:=ry
  exact rule i j t t' s _ _ ⟨.bl (g i j),H,I,rfl,q⟩
def CDiv (i j:Int):Prop:=0 < j /\ j < 1073741824
def CPow (i j:Int):Prop:=0≤j /\ j≤1000000 /\ i.natAbs < 2 ^ 64
def CMul (i j:Int):Prop:=(-(2 ^ 64) < i /\ i < 2 ^ 64) \/ (-(2 ^ 64) < j /\ j < 2 ^ 64)
theorem CMul.ok {i j:Int} (h:CMul i j):IntMulOk i j:=by
  rcases h with ⟨h1,h2⟩ | ⟨h1,h2⟩
  · exact .of_left (intBits_le_64 h1 h2)
  · exact .of_right (intBits_le_64 h1 h2)
theorem op_add:OpR X (binaryOp .Add) (rI0 fun i j=>.int (i+j)):=opI0 fun _ _ _ _ _ _ _ q=>add_int q
theorem op_sub:OpR X (binaryOp .Sub) (rI0 fun i j=>.int (i - j)):=opI0 fun _ _ _ _ _ _ _ q=>sub_int q
theorem op_mul:OpR X (binaryOp .Mult) (rI CMul fun i j=>.int (i * j)):=opI fun _ _ _ _ _ _ _ hc q=>mul_int q hc.ok
theorem zta:OpR X (binaryOp .FloorDiv) (rI CDiv fun i j=>.int (i / j)):=opI fun i j _ _ _ _ _ hc q=>by
  have h1:(0:Int) < j:=hc.1
  have h2:j < 1073741824:=hc.2
  exact floordiv_int (by omega) (by rw [Int.fdiv_eq_ediv_of_nonneg i (by omega)];exact q) (.inl (PyProof.noPylong_small (by omega)))
theorem op_mod:OpR X (binaryOp .Mod) (rI (fun _ j=>0 < j) fun i j=>.int (i % j)):=opI fun i j _ _ _ _ _ hc q=>by
  have h1:(0:Int) < j:=hc
  exact mod_int' (by omega) (by rw [Int.fmod_eq_emod_of_nonneg i (by omega)];exact q)
theorem op_pow:OpR X (binaryOp .Pow) (rI CPow fun i j=>.int (i ^ j.toNat)):=opI fun _ _ _ _ _ _ _ hc q=>pow_int_small hc.1 hc.2.1 hc.2.2 q
end
section
variable {X:Cx}{a b c:Expr}{ta tb tc:TE}{pos:Pos}
theorem zia {pins:List (Addr×Obj)}{σ:St}{H:Hp}{s:Shared}{Q:VK}{k k':Bool} (I:Inv X pins σ H s) (q:Q (.bl k) H) (e:k=k'):EP X pins σ Q (.bool k') s:=by
  subst e
  exact ⟨.bl k,H,I,rfl,q⟩
theorem op_lt:OpR X (compareOp .Lt) (rI0 fun i j=>.bl (decide (i < j))):=opB0 fun _ _ _ _ _ _ _ q=>lt_int q
theorem op_le:OpR X (compareOp .LtE) (rI0 fun i j=>.bl (decide (i≤j))):=opB0 fun _ _ _ _ _ _ _ q=>le_int q
theorem op_gt:OpR X (compareOp .Gt) (rI0 fun i j=>.bl (decide (j < i))):=opB0 fun _ _ _ _ _ _ _ q=>gt_int q
theorem op_ge:OpR X (compareOp .GtE) (rI0 fun i j=>.bl (decide (j≤i))):=opB0 fun _ _ _ _ _ _ _ q=>ge_int q
theorem zo7:OpR X (compareOp .In) (fun x y H Q=>∃ i j,x=.str i /\ y=.str j /\ Q (.bl (!(Builtin.Str.occurrences j i 0 j.length 1).isEmpty)) H):=by
  intro pins s σ H x y v u Q I rx ry h
  obtain ⟨i,j,rfl,rfl,q⟩:=h
  obtain ⟨t,rfl⟩:=rx
  obtain ⟨t',rfl⟩:=ry
  exact in_str (zia I q rfl)
theorem op_isN:OpR X (compareOp .Is) (fun x y H Q=>y=.non /\ Q (.bl (decide (x=.non))) H):=by
  intro pins s σ H x y v u Q I rx ry h
  obtain ⟨rfl,q⟩:=h
  cases ry
  refine is_none_gen (zia I q ?_)
  cases x<;>first
    | (cases rx;rfl)
    | (obtain ⟨t,rfl⟩:=rx;rfl)
theorem zs9:OpR X (compareOp .IsNot) (fun x y H Q=>y=.non /\ Q (.bl (!decide (x=.non))) H):=by
  intro pins s σ H x y v u Q I rx ry h
  obtain ⟨rfl,q⟩:=h
  cases ry
  refine isnot_none_gen (zia I q ?_)
  cases x<;>first
    | (cases rx;rfl)
    | (obtain ⟨t,rfl⟩:=rx;rfl)
theorem zlm:OpR X (compareOp .NotIn) (fun x y H Q=>∃ i j,x=.str i /\ y=.str j /\ Q (.bl (!(!(Builtin.Str.occurrences j i 0 j.length 1).isEmpty))) H):=by
  intro pins s σ H x y v u Q I rx ry h
  obtain ⟨i,j,rfl,rfl,q⟩:=h
  obtain ⟨t,rfl⟩:=rx
  obtain ⟨t',rfl⟩:=ry
  exact notIn_str (zia I q rfl)
def isObj:HO->Bool
  | .lst _=>true
  | .ins _ _ _=>true
  | _=>false
theorem zjq {pins:List (Addr×Obj)}{s:Shared}{σ:St}{H:Hp}{a:Addr}{o:HO} (I:Inv X pins σ H s) (h:H a=some o) (p:isObj o=true):∃ ob,s.heap.get? a=some ob /\ ob.cls≠.type "tuple":=by
  cases o with
  | lst xs =>
    obtain ⟨_,its,n,_,e⟩:xs.length≤sizeLine /\ ∃ (its:List Value) (n:Nat),Vals xs its /\ s.heap.get? a=some {cls:=.type "list",data:=.seq its.toArray n}:=I.hok a _ h
    exact ⟨_,e,(by show Value.type "list"≠.type "tuple";decide +kernel)⟩
  | ins C dx fs =>
    have x:=I.hok a _ h
    obtain ⟨_,_,_,e,_⟩:=x
    exact ⟨_,e,(by show Value.ref C≠.type "tuple";exact fun z=>by cases z)⟩
  | _=>exact absurd (show false=true from p) Bool.false_ne_true
theorem OpR.or {f:Value->Value->Sem Value}{r r':R2} (h:OpR X f r) (h':OpR X f r'):OpR X f (fun x y H Q=>r x y H Q \/ r' x y H Q):=by
  intro pins s σ H x y v u Q I rx ry q
  rcases q with q | q
  · exact h pins s σ H x y v u Q I rx ry q
  · exact h' pins s σ H x y v u Q I rx ry q
theorem zs6 {op:CmpOp}{r:R2} (ho:OpR X (compareOp op) r) (ha:PE X a ta) (hb:PE X b tb) (hm:behindInMarks op b=false):PE X (.Compare a [op] [b] pos) (tOp r ta tb):=by
  intro pins s σ H Q I h
  exact wpAny_Compare1 (binT ha hb I h fun v u s2 x y H2 I2 rx ry q=>ho pins s2 σ H2 x y v u Q I2 rx ry q) hm
def tTest (t:TE):TT:=fun σ H Q=>t σ H fun x H'=>∃ k,x=.bl k /\ Q k H'
theorem zsx {op:CmpOp}{r:R2} (ho:OpR X (compareOp op) r) (ha:PE X a ta) (hb:PE X b tb) (hm:behindInMarks op b=false):PT X (.Compare a [op] [b] pos) (tTest (tOp r ta tb)):=by
  intro pins s σ H Q I h
  refine wpAny_isTrue_Compare1 (thn (ha pins s σ H _ I h) fun v s1 ⟨x,H1,I1,r1,q1⟩=>thn (hb pins s1 σ H1 _ I1 q1) fun u s2 ⟨y,H2,I2,r2,q2⟩=>
    thn (ho pins s2 σ H2 x y v u _ I2 r1 r2 q2) fun c s3 ⟨z,H3,I3,r3,k,e,q3⟩=>?_) hm
  subst e
  cases r3
  exact wpAny_truthy_bool ⟨H3,I3,q3⟩
def TruV (K:PySem.W.Frag) (x:V) (H:Hp) (k:Bool):Prop:=
  match x with
  | .non=>k=false
  | .bl b=>k=b
  | .int i=>k=(i != 0)
  | .str y=>y.length≤sizeLine /\ k=((y.length:Int) != 0)
  | .byt y=>y.size≤sizeLine /\ k=((y.size:Int) != 0)
  | .ref p=>(∃ xs,SqL K H p xs /\ k=!xs.isEmpty) \/ (∃ xs,SqT K H p xs /\ k=!xs.isEmpty) \/ ∃ kvs,H p=some (.dK kvs) /\ k=!kvs.isEmpty
  | _=>False
theorem zns {κ:Type}{kvs:List (κ×V)}{vs:List (κ×Value)} (r:KV kvs vs):(!vs.isEmpty)=!kvs.isEmpty:=by
  cases r<;>rfl
theorem zh6 {xs:List V}{its:List Value} (r:Vals xs its):(!its.toArray.isEmpty)=!xs.isEmpty:=by
  cases r<;>simp
theorem zex:(sizeLine:Nat) < 2 ^ 63:=by rw [sizeLine_eq];decide
theorem tru_ok:TruR X (fun x H Q=>∃ k,TruV X.K x H k /\ Q k H):=by
  intro pins s σ H x v Q I rx h
  obtain ⟨k,e,q⟩:=h
  have hl:=zex
  have hs:sizeLine=16777216:=sizeLine_eq
  cases x with
  | non =>
    cases rx
    have e':k=false:=e
    subst e'
    exact truthy_none ⟨H,I,q⟩
  | bl b =>
    cases rx
    have e':k=b:=e
    subst e'
    exact wpAny_truthy_bool ⟨H,I,q⟩
  | int i =>
    obtain ⟨t,rfl⟩:=rx
    have e':k=(i != 0):=e
    subst e'
    exact PySem.P.truthy_int ⟨H,I,q⟩
  | str y =>
    obtain ⟨t,rfl⟩:=rx
    obtain ⟨hy,e'⟩:y.length≤sizeLine /\ k=((y.length:Int) != 0):=e
    subst e'
    exact PySem.P.truthy_str (by omega) ⟨H,I.tok _,q⟩
  | byt y =>
    obtain ⟨t,rfl⟩:=rx
    obtain ⟨hy,e'⟩:y.size≤sizeLine /\ k=((y.size:Int) != 0):=e
    subst e'
    exact PySem.W.truthy_bytes (by omega) ⟨H,I.tok _,q⟩
  | ref p =>
    cases rx
    have e':(∃ xs,SqL X.K H p xs /\ k=!xs.isEmpty) \/ (∃ xs,SqT X.K H p xs /\ k=!xs.isEmpty) \/ ∃ kvs,H p=some (.dK kvs) /\ k=!kvs.isEmpty:=e
    rcases e' with ⟨xs,hx,e'⟩ | ⟨xs,hx,e'⟩ | ⟨kvs,hx,e'⟩
    · subst e'
      obtain ⟨its,r,pl,hz⟩:=I.list hx
      have hlen:=r.length
      exact wpAny_truthy_list pl.isList (by simp only [List.size_toArray];omega) ⟨H,I.tok _,by rw [zh6 r];exact q⟩
    · subst e'
      obtain ⟨its,r,pl,hz⟩:=I.tuple hx
      have hlen:=r.length
      exact truthy_tuple pl (by simp only [List.size_toArray];omega) ⟨H,I.tok _,by rw [zh6 r];exact q⟩
    · subst e'
      obtain ⟨hz,hS,vs,r,m⟩:kvs.length≤sizeLine /\ (p==sysModules)=false /\ ∃ vs,KV kvs vs /\ s.heap.DictOf (ziw X.prog X.w) p vs:=I.hok p _ hx
      have hlen:kvs.length=vs.length:=Paired.length r
      exact wpAny_truthy_dict hS m (by omega) ⟨H,I.tok _,by rw [zns r];exact q⟩
  | _=>exact (show False from e).elim
theorem zqm (ha:PE X a ta) (he:∀ whole,isTrue a X.env whole=(do let v <- whole;standAt a.pos;holding [v] (truthy v))) :
    PT X a (fun σ H Q=>ta σ H fun x H'=>∃ k,TruV X.K x H' k /\ Q k H'):=by
  intro pins s σ H Q I h
  exact isTrue_plain (thn (ha pins s σ H _ I h) fun v s1 ⟨x,H1,I1,r1,q1⟩=>tru_ok pins s1 σ H1 x v Q I1 r1 q1) (he _)
theorem znh:OpR X (binaryOp .Add) (fun x y H Q=>∃ i j,x=.str i /\ y=.str j /\ i.length+j.length≤sizeLine /\ Q (.str (i++j)) H):=by
  intro pins s σ H x y v u Q I rx ry h
  obtain ⟨i,j,rfl,rfl,hz,q⟩:=h
  obtain ⟨t,rfl⟩:=rx
  obtain ⟨t',rfl⟩:=ry
  exact add_str (fun t' tk=>⟨.str (i++j),H,I.tok _,⟨_,rfl⟩,q⟩) hz
theorem vals1 {x:V}{us:List Value} (r:Vals [x] us):∃ u,us=[u] /\ RelV x u:=by
  cases r with
  | cons r1 r2=>cases r2;exact ⟨_,rfl,r1⟩
theorem vals2 {x y:V}{us:List Value} (r:Vals [x,y] us):∃ u w',us=[u,w'] /\ RelV x u /\ RelV y w':=by
  cases r with
  | cons r1 r2 =>
    cases r2 with
    | cons r3 r4=>cases r4;exact ⟨_,_,rfl,r1,r3⟩
end
end L2
namespace L2
open PySem PySem.Spec PyProof.Rows
structure ObjM (h:Heap) (x dx C:Addr) (mA:Str->Option Value):Prop where
  obj:h.get? x=some (PySem.W.instObj C dx)
  ns:h.Ns1 dx mA
  ne:dx≠x
theorem zjr {h:Heap}{dx:Addr}{mA:Str->Option Value} (n:h.Ns1 dx mA):∃ od,h.get? dx=some od /\ ∀ name,PySem.W.lookIn name od=some (mA name):=by
  obtain ⟨o,es,ep,ho,hd,hk,_,hm⟩:=n
  refine ⟨o,ho,fun name=>?_⟩
  have e:=hm name
  unfold nsFind findBy at e
  rw [<- Array.find?_toList] at e
  unfold PySem.W.lookIn
  rw [hd]
  dsimp only
  split
  · rename_i y q
    rw [q] at e
    exact congrArg some e
  · rename_i q
    rw [q] at e
    have a:es.toList.any (·.refKey)=false:=by
      rw [List.any_eq_false]
      intro y hy
      obtain ⟨z,t,hkey⟩:=hk y (Array.mem_toList_iff.mp hy)
      simp [DictEntry.refKey,hkey]
    have a':¬ es.toList.any (·.refKey)=true:=by rw [a];exact Bool.false_ne_true
    rw [if_neg a']
    exact congrArg some e
theorem ObjM.look {h:Heap}{x dx C:Addr}{mA:Str->Option Value} (I:ObjM h x dx C mA):∃ od,PySem.W.InstAt h x (PySem.W.instObj C dx) C (some od) /\ ∀ name,PySem.W.lookIn name od=some (mA name):=
  let ⟨od,ho,hl⟩:=zjr I.ns
  ⟨od,⟨I.obj,rfl,rfl,ho⟩,hl⟩
section
variable {prog:Program}{w:World}{A:Around}{E:Value->Shared->Prop}{s:Shared}{K:PySem.W.Frag}{x dx C f:Addr}{mA:Str->Option Value}{name:Str}{v:Value}
end
theorem RelO.some_of {v:V}{o:Option Value} (r:RelO (some v) o):∃ u,o=some u /\ RelV v u:=by
  cases o with
  | none=>exact (show False from r).elim
  | some u=>exact ⟨u,rfl,r⟩
section
variable {P:Program}{w:World}{H H':Hp}{h h':Heap}{a C dx:Addr}{fs fs':List (Str×V)}
theorem ztj (hok:HOk P w H h) (e:H a=some (.ins C dx fs)):∃ mA,ObjM h a dx C mA /\ (∀ f,RelO (fs.lookup f) (mA f)) /\ PySem.Within mA (fs.map (·.1)) /\ fs.length≤1000 /\ H dx=some (.own a):=by
  obtain ⟨d,z,ne,ob,mA,n,r,q⟩:=(show zb8 P w H h a (.ins C dx fs) from hok a _ e)
  exact ⟨mA,⟨ob,n,ne⟩,r,q,z,d⟩
end
structure Cls (K:PySem.W.Frag) (C:Addr):Prop where
  pg:PySem.W.plainGet K C Str.empty=true
  hd:PySem.W.hasDictIn K C=true
  po:PySem.W.plainOver K C=true
  sa:PySem.W.findIn K (.ref C) "__setattr__"=some (some (.builtin "object.__setattr__"))
theorem Cls.get {K:PySem.W.Frag}{C:Addr} (c:Cls K C) (f:Str):PySem.W.plainGet K C f=true:=c.pg
section
variable {X:Cx}{pins:List (Addr×Obj)}{σ:St}{H:Hp}{s:Shared}{a C dx:Addr}{fs:List (Str×V)}{f:Str}{v:V}{A:Around}{E:Value->Shared->Prop}
theorem zt7 {prog:Program}{w:World}{env:Env}{e:Expr}{f:Str}{pos:Pos}{s:Shared}{Q:Value->Shared->Prop} (hb:attributeBase e f env (eval e env)=eval e env)
    (h:wpAny (model prog w) A (eval e env) (fun o s₁=>wpAny (model prog w) A (getAttr o f true) Q E s₁) E s):wpAny (model prog w) A (eval (.Attribute e f pos) env) Q E s:=
  Attribute_any_ h (by rw [arm_eval_Attribute,hb])
end
section
variable {X:Cx}{o e value:Expr}{f:Str}{pos pos' tpos:Pos}{ta tv:TE}
end
section
variable {X:Cx}{pins:List (Addr×Obj)}{σ:St}{H:Hp}{s:Shared}{A:Around}{E:Value->Shared->Prop}{Q:Value->Shared->Prop}{c:Value}{b:Bool}
inductive zej (K:PySem.W.Frag) (H:Hp):V->Value->Prop where
  | non:zej K H .non (.type "NoneType")
  | bl (x:Bool):zej K H (.bl x) (.type "bool")
  | int (i:Int):zej K H (.int i) (.type "int")
  | str (x:Str):zej K H (.str x) (.type "str")
  | flt (x:UInt64):zej K H (.flt x) (.type "float")
  | lst {a:Addr}{xs:List V} (e:H a=some (.lst xs)):zej K H (.ref a) (.type "list")
  | frz {a:Addr}{o:Obj}{xs:List V} (e:H a=some (.frz o (.lst xs))):zej K H (.ref a) (.type "list")
  | tup {a:Addr}{xs:List V} (e:H a=some (.tup xs)):zej K H (.ref a) (.type "tuple")
  | dK {a:Addr}{kvs:List (Key×V)} (e:H a=some (.dK kvs)):zej K H (.ref a) (.type "dict")
  | dT {a:Addr}{kvs:List (List Key×V)} (e:H a=some (.dT kvs)):zej K H (.ref a) (.type "dict")
  | ins {a C dx:Addr}{fs:List (Str×V)} (e:H a=some (.ins C dx fs)) (cl:Cls K C) (ha:PySem.W.findIn K (.ref C) "__class__"=some (some (.builtin "object.__class__")))
      (hn:PySem.W.specialIn K (.builtin "object.__class__") "__get__"=some (some (.builtin "getset_descriptor.__get__"))) (htk:PySem.W.takesIn K (.builtin "object.__class__")=some true)
      (hm:PySem.W.mroIn K C (.type "object")=some true):zej K H (.ref a) (.ref C)
theorem ze3 {x:V}{u t:Value} (I:Inv X pins σ H s) (rx:RelV x u) (ty:zej X.K H x t) (e:PySem.W.kitOne X.K t c=some b) (h:∀ tk,Q (.bool b) {s with toks:=tk}) :
    wpAny (model X.prog X.w) A (call (.builtin "isinstance") [u,c]) Q E s:=by
  cases ty with
  | non=>cases (show u=Value.none from rx);exact PySem.W.kia_one PySem.W.kitx_none I.kIn True.intro e (fun z=>nomatch z) h
  | bl y=>cases (show u=Value.bool y from rx);exact PySem.W.kia_one PySem.W.kitx_bool I.kIn True.intro e (fun z=>nomatch z) h
  | int i=>obtain ⟨t,q⟩:=(show ∃ t,u=Value.int i t from rx);cases q;exact PySem.W.kia_one PySem.W.kitx_int I.kIn True.intro e (fun z=>nomatch z) h
  | str y=>obtain ⟨t,q⟩:=(show ∃ t,u=Value.str y t from rx);cases q;exact PySem.W.kia_one PySem.W.kitx_str I.kIn True.intro e (fun z=>nomatch z) h
  | flt y=>obtain ⟨t,q⟩:=(show ∃ t,u=Value.float y t from rx);cases q;exact PySem.W.kia_one PySem.W.kitx_float I.kIn True.intro e (fun z=>nomatch z) h
  | @lst a xs ea =>
    cases (show u=Value.ref a from rx)
    obtain ⟨_,_,n,_,h1⟩:=(show zb8 X.prog X.w H s.heap a (.lst xs) from I.hok a _ ea)
    exact PySem.W.kia_one PySem.W.kitx_list I.kIn ⟨_,h1,rfl⟩ e (fun z=>nomatch z) h
  | @frz a ob xs ea =>
    cases (show u=Value.ref a from rx)
    obtain ⟨_,_,_,n,_,h1⟩:=(show zb8 X.prog X.w H s.heap a (.frz ob (.lst xs)) from I.hok a _ ea)
    exact PySem.W.kia_one PySem.W.kitx_list I.kIn ⟨_,h1,rfl⟩ e (fun z=>nomatch z) h
  | @tup a xs ea =>
    cases (show u=Value.ref a from rx)
    obtain ⟨_,_,_,p⟩:=(show zb8 X.prog X.w H s.heap a (.tup xs) from I.hok a _ ea)
    obtain ⟨o,h1,h2,_⟩:=p
    exact PySem.W.kia_one PySem.W.kitx_tuple I.kIn ⟨o,h1,h2⟩ e (fun z=>nomatch z) h
  | @dK a kvs ea =>
    cases (show u=Value.ref a from rx)
    obtain ⟨_,_,vs,_,p⟩:=(show zb8 X.prog X.w H s.heap a (.dK kvs) from I.hok a _ ea)
    obtain ⟨o,es,ep,h1,h2,_⟩:=p
    exact PySem.W.kia_one PySem.W.kitx_dict I.kIn ⟨o,h1,h2.1⟩ e (fun z=>nomatch z) h
  | @dT a kvs ea =>
    cases (show u=Value.ref a from rx)
    obtain ⟨_,_,xs,_,o,es,ep,h1,h2,_⟩:=(show zb8 X.prog X.w H s.heap a (.dT kvs) from I.hok a _ ea)
    exact PySem.W.kia_one PySem.W.kitx_dict I.kIn ⟨o,h1,h2.1⟩ e (fun z=>nomatch z) h
  | @ins a C dx fs ea cl ha hn htk hm =>
    cases (show u=Value.ref a from rx)
    obtain ⟨mA,O,_⟩:=ztj I.hok ea
    obtain ⟨od,J,_⟩:=O.look
    exact PySem.W.kia_one (PySem.W.kitx_own (cl.get _) cl.hd ha hn htk hm) I.kIn J e (fun z=>nomatch z) h
end
end L2
namespace L2
open PySem PySem.Spec PyProof.Rows
structure zbd (k:Nat) (A:Around):Prop where
  hd:A.handled=none
  dp:A.depth+3 * k+5 < recursionLimit
  un:A.units+16 * k+200 < cLine
theorem zbd.mono {j k:Nat}{A:Around} (r:zbd k A) (h:j≤k):zbd j A:=⟨r.hd,by have:=r.dp;omega,by have:=r.un;omega⟩
theorem zbd.deeper {k:Nat}{A:Around} (r:zbd (k+1) A) (env:Env):zbd k (A.deeper env):=
  ⟨r.hd,by have:=r.dp;show A.depth+1+3 * k+5 < _;omega,by have:=r.un;show A.units+3+16 * k+200 < _;omega⟩
theorem zbd.in1 {k:Nat}{A:Around} (r:zbd (k+1) A):zbd k A.in1:=
  ⟨r.hd,by have:=r.dp;show A.depth+3 * k+5 < _;omega,by have:=r.un;show A.units+1+16 * k+200 < _;omega⟩
theorem zno {A:Around}{C:Addr}{us:List Value}{kw:List (Str×Value)}:(A.under (.builtin "type.__call__" ⟨.ref C::us,kw⟩)).depth=A.depth+1:=by
  first | rfl | simp [Around.under,Code.weight,Code.isCreation,Code.isGuard,Code.isCaller,Code.frames,Code.isFrame,guardIds]
theorem znn {A:Around}{C:Addr}{us:List Value}{kw:List (Str×Value)}:(A.under (.builtin "type.__call__" ⟨.ref C::us,kw⟩)).units=A.units+1:=by
  first | rfl | simp [Around.under,Code.cUnits,Code.frames,Code.isFrame]
theorem zbd.make {k:Nat}{A:Around} (r:zbd (k+1) A) (C:Addr) (us:List Value) (kw:List (Str×Value)):zbd k (A.under (.builtin "type.__call__" ⟨.ref C::us,kw⟩)):=
  ⟨r.hd,by have:=r.dp;rw [zno];omega,by have:=r.un;rw [znn];omega⟩
theorem zbd.depth {k:Nat}{A:Around} (r:zbd k A):A.depth < recursionLimit:=by have:=r.dp;omega
theorem zbd.units {k:Nat}{A:Around} (r:zbd k A):A.units+64 < cLine:=by have:=r.un;omega
def tNil:TA:=fun _ H Q=>Q [] H
def tCons (ta:TE) (tr:TA):TA:=fun σ H Q=>ta σ H fun x H1=>tr σ H1 fun xs H2=>Q (x::xs) H2
section
variable {X:Cx}{e:Expr}{es:List Expr}{te:TE}{t:TA}{pos:Pos}
theorem zc6:PA X [] tNil:=fun _ _ _ _ H Q I h=>Calls.spliced_nil ⟨[],H,I,.nil,h⟩
theorem zbu (ha:PE X e te) (hr:PA X es t) (hs:starEach (e::es) X.env=(false,eval e X.env)::starEach es X.env:=by rfl):PA X (e::es) (tCons te t):=by
  intro pos pins s σ H Q I h
  rw [hs]
  show wpAny _ _ (spliced ((false,eval e X.env)::backTo pos (starEach es X.env))) _ _ s
  refine Calls.spliced_cons (thn (ha pins s σ H _ I h) fun u s1 ⟨x,H1,I1,r1,q1⟩=>?_)
  exact thn (hr pos pins s1 σ H1 _ I1 q1) fun us s2 ⟨xs,H2,I2,r2,q2⟩=>⟨x::xs,H2,I2,.cons r1 r2,q2⟩
def tLst (t:TA):TE:=fun σ H Q=>t σ H fun xs H1=>xs.length≤sizeLine /\ ∀ p,H1 p=none->Q (.ref p) (upd H1 p (.lst xs))
theorem pe_lst (h:PA X es t):PE X (.List es pos) (tLst t):=by
  intro pins s σ H Q I hq
  refine wpAny_List_spliced (thn (h pos pins s σ H _ I hq) fun us s1 ⟨xs,H1,I1,r,z,q⟩=>⟨by rw [<- r.length];exact z,?_⟩)
  have hf:H1 s1.heap.objs.size=none:=I1.hok.fresh (Nat.le_refl _)
  refine ⟨.ref s1.heap.objs.size,upd H1 s1.heap.objs.size (.lst xs),I1.laid (t':=s1.toks) (fun b u e=>Heap.get?_push_of_some _ e) (Nat.le_refl _) ?_,rfl,q _ hf⟩
  exact ⟨z,us,0,r,Heap.get?_push_size _ rfl⟩
end
abbrev Sp:=List V->Hp->VK->XK->Prop
abbrev CXT:=List Env->Hp->Shared->XK->Value->Shared->Prop
structure zfa (P:Program) (w:World) (K:PySem.W.Frag) (mg:Str->Option Value) (base:Heap) (A:Around) (outer:List Env) (s:Shared) (H:Hp):Prop where
  frames:A.frames=some outer
  mod:Mod K mg base
  bs:∀ b o,base.get? b=some o->s.heap.get? b=some o /\ H b=none
  bsz:base.objs.size≤s.heap.objs.size
  funs:s.heap.FunFrames base outer
  frf:∀ b∈frs outer,H b=none
  hok:HOk P w H s.heap
  bare:AllBare s.gens
def CE (outer:List Env) (P:Program) (w:World) (H:Hp) (s:Shared) (Q:VK) (u:Value) (s':Shared):Prop:=
  ∃ v H',s'.os=s.os /\ AllBare s'.gens /\ Un (frs outer) [] H H' s.heap s'.heap /\ HOk P w H' s'.heap /\ RelV v u /\ Q v H'
def CR (CX:CXT) (outer:List Env) (P:Program) (w:World) (H:Hp) (s:Shared) (Q:VK) (E:XK) (r:Result) (s':Shared):Prop:=
  match r with
  | .ok (.ret u)=>CE outer P w H s Q u s'
  | .ok _=>False
  | .error e=>CX outer H s E e s'
structure zdm (P:Program) (w:World) (K:PySem.W.Frag) (mg:Str->Option Value) (base:Heap) (CX:CXT) (k:Nat) (f:Addr) (fd:FuncData) (ps:List Str) (sp:Sp):Prop where
  len:∀ vs H Q E,sp vs H Q E->vs.length=ps.length
  run:∀ (A:Around) (outer:List Env) (s:Shared) (H:Hp) (args:Args) (us:List Value) (vs:List V) (Q:VK) (E:XK),zbd k A->zfa P w K mg base A outer s H->BindsTo s fd args (ps.zip us)->Vals vs us->sp vs H Q E->
    codeAny (model P w) A (.call (.ref f) args) (CR CX outer P w H s Q E) s
theorem zdm.mono {P:Program}{w:World}{K:PySem.W.Frag}{mg:Str->Option Value}{base:Heap}{CX:CXT}{j k:Nat}{f:Addr}{fd:FuncData}{ps:List Str}{sp:Sp} (F:zdm P w K mg base CX j f fd ps sp) (h:j≤k) :
    zdm P w K mg base CX k f fd ps sp:=⟨F.len,fun A outer s H args us vs Q E hr=>F.run A outer s H args us vs Q E (hr.mono h)⟩
theorem zdm.imp {P:Program}{w:World}{K:PySem.W.Frag}{mg:Str->Option Value}{base:Heap}{CX:CXT}{k:Nat}{f:Addr}{fd:FuncData}{ps:List Str}{sp sp':Sp} (F:zdm P w K mg base CX k f fd ps sp)
    (h:∀ vs H Q E,sp' vs H Q E->sp vs H Q E):zdm P w K mg base CX k f fd ps sp':=
  ⟨fun vs H Q E q=>F.len vs H Q E (h _ _ _ _ q),fun A outer s H args us vs Q E hr he hb hv hs=>F.run A outer s H args us vs Q E hr he hb hv (h _ _ _ _ hs)⟩
theorem zfa.make {P:Program}{w:World}{K:PySem.W.Frag}{mg:Str->Option Value}{base:Heap}{A:Around}{outer:List Env}{s:Shared}{H:Hp} (e:zfa P w K mg base A outer s H) (C:Addr) (us:List Value) (kw:List (Str×Value)) :
    zfa P w K mg base (A.under (.builtin "type.__call__" ⟨.ref C::us,kw⟩)) outer s H:=⟨by first | exact e.frames | (simpa [Around.under,Code.envs,Code.isFrame,pushEnvs] using e.frames),e.mod,e.bs,e.bsz,e.funs,e.frf,e.hok,e.bare⟩
theorem zfa.in1 {P:Program}{w:World}{K:PySem.W.Frag}{mg:Str->Option Value}{base:Heap}{A:Around}{outer:List Env}{s:Shared}{H:Hp} (e:zfa P w K mg base A outer s H) :
    zfa P w K mg base A.in1 outer s H:=⟨e.frames,e.mod,e.bs,e.bsz,e.funs,e.frf,e.hok,e.bare⟩
section
variable {X:Cx}{pins:List (Addr×Obj)}{σ:St}{H:Hp}{s s':Shared}
theorem Inv.env0 (I:Inv X pins σ H s):zfa X.prog X.w X.K X.mg X.base X.A X.stack s H:=
  ⟨I.ok.frames,I.ok.mod,I.bs,Nat.le_trans I.ok.bsz I.sz,I.stack,I.stkFree,I.hok,I.bare⟩
theorem Inv.after {Q:VK}{u:Value} (I:Inv X pins σ H s) (h:CE X.stack X.prog X.w H s Q u s'):EP X pins σ Q u s':=by
  obtain ⟨v,H',os,bare,un,hok,r,q⟩:=h
  obtain ⟨hh,g,d,t,os'⟩:=s'
  obtain rfl:os'=s.os:=os
  exact ⟨v,H',I.call (h':=hh) (g':=g) (d':=d) (t':=t) (ch:=[]) un hok bare (fun b z=>absurd z (by simp)),r,q⟩
end
def tCall (sp:Sp) (dvs:List V) (E:XK) (t:TA):TE:=fun σ H Q=>t σ H fun vs H1=>sp (vs++dvs) H1 Q E
def Binds (K:PySem.W.Frag) (fd:FuncData) (ps:List Str) (ds:List Value):Prop:=
  ∀ (s:Shared) (us:List Value),K.In s.heap->(us++ds).length=ps.length->BindsTo s fd ⟨us,[]⟩ (ps.zip (us++ds))
theorem Binds.all {K:PySem.W.Frag}{fd:FuncData}{ps:List Str} (h:∀ us:List Value,us.length=ps.length->bindArgs fd ⟨us,[]⟩=pure (ps.zip us)):Binds K fd ps []:=fun s us _ hl=>by
  rw [List.append_nil] at hl ⊢
  exact .of_eq (h us hl)
def Passes (CX:CXT) (X:Cx) (E:XK):Prop:=∀ (pins:List (Addr×Obj)) (σ:St) (H:Hp) (s:Shared) (e:Value) (s':Shared),Inv X pins σ H s->CX X.stack H s E e s'->X.xe e s'
section
variable {X:Cx}{CX:CXT}{k:Nat}{f C:Addr}{fd:FuncData}{ps:List Str}{sp:Sp}{dvs:List V}{ds:List Value}{E:XK}{x m:Str}{p pos apos:Pos}{e o:Expr}{es:List Expr}{ta:TE}{t:TA}
theorem run_fn {pins:List (Addr×Obj)}{σ:St}{H:Hp}{s:Shared}{Q:VK}{us:List Value}{vs:List V} (F:zdm X.prog X.w X.K X.mg X.base CX k f fd ps sp) (hr:zbd k X.A) (hb:Binds X.K fd ps ds) (hd:Vals dvs ds) (hx:Passes CX X E)
    (I:Inv X pins σ H s) (r:Vals vs us) (h:sp (vs++dvs) H Q E):wpAny (model X.prog X.w) X.A (call (.ref f) us) (EP X pins σ Q) X.xe s:=by
  have r2:Vals (vs++dvs) (us++ds):=r.append hd
  have hl:(us++ds).length=ps.length:=by rw [<- r2.length];exact F.len _ _ _ _ h
  refine wpAny_call (codeAny_mono (F.run X.A X.stack s H ⟨us,[]⟩ (us++ds) (vs++dvs) Q E hr I.env0 (hb s us I.kIn hl) r2 h) fun r s' hq=>?_)
  cases r with
  | error e=>exact hx pins σ H s e s' I hq
  | ok fl =>
    cases fl with
    | ret u=>exact I.after hq
    | next=>exact False.elim hq
    | brk=>exact False.elim hq
    | cont=>exact False.elim hq
theorem zs7 (F:zdm X.prog X.w X.K X.mg X.base CX k f fd ps sp) (hr:zbd k X.A) (hg:Gl X x) (hm:X.mg x=some (.ref f)) (hk:PySem.W.keepIn X.K (.ref f)=true) (hb:Binds X.K fd ps ds) (hd:Vals dvs ds) (hx:Passes CX X E)
    (ha:PA X (e::es) t) (hdb:(x==("__debug__":Str))=false:=by decide) (he:starEach (e::es) X.env=(false,eval e X.env)::starEach es X.env:=by rfl) (hpl:(backTo pos (starEach es X.env)).any (·.1)=false:=by rfl) :
    PE X (.Call (.Name x p) (e::es) [] pos) (tCall sp dvs E t):=by
  intro pins s σ H Q I h
  refine wpAny_Call_Name_kw (zfh I hg hm ?_ hdb)
  refine PySem.W.callWith_K (h₀:=X.base) I.ok.mod.kin hk (thn (ha pos pins s σ H _ I h) fun us s1 ⟨vs,H1,I1,r,q⟩=>⟨I1.kIn,?_⟩) he hpl
  exact run_fn F hr hb hd hx I1 r q
end
section
variable {X:Cx}{CX:CXT}{k:Nat}{f C:Addr}{fd:FuncData}{ps ks:List Str}{sp:Sp}{E:XK}{x m:Str}{p pos apos kpos:Pos}{e o:Expr}{es:List Expr}{kws:List Keyword}{te ta:TE}{t tk:TA}{nm:Option Str}
variable {g:List Value->List Value->List Value}{gV:List V->List V->List V}
end
structure zbw (N P:List Str) (sc:Scope):Prop where
  kind:sc.kind=.function
  co:sc.isCoroutine=false
  gen:sc.isGenerator=false
  nd:N.Nodup
  pre:N.take P.length=P
  par:∀ x∈P,sc.names.lookup x=some .local \/ sc.names.lookup x=some .cell
  nofree:∀ y∈sc.names,y.2≠.free
theorem zj0 {kindOf:Str->Option NameKind}{x:Str}:∀ {binds:List (Str×Value)}{m:Str->Option Value},(∀ v,(x,v)∉binds)->bindL kindOf binds m x=m x
  | [],_,_=>rfl
  | (n, v) :: r, m, h => by
    unfold bindL
    rw [zj0 fun w hw=>h w (List.mem_cons_of_mem _ hw)]
    split
    · have:x≠n:=by rintro rfl;exact h v List.mem_cons_self
      simp [this]
    · rfl
theorem zj2 {kindOf:Str->Option NameKind}{x:Str}:∀ {binds:List (Str×Value)}{m:Str->Option Value},(∀ v,(x,v)∉binds)->bindC kindOf binds m x=m x
  | [],_,_=>rfl
  | (n, v) :: r, m, h => by
    unfold bindC
    rw [zj2 fun w hw=>h w (List.mem_cons_of_mem _ hw)]
    split
    · rfl
    · have:x≠n:=by rintro rfl;exact h v List.mem_cons_self
      simp [this]
theorem zj1 {kindOf:Str->Option NameKind}{x:Str}{v:Value}:∀ {P:List Str}{vs:List Value}{i:Nat}{m:Str->Option Value},P.Nodup->P[i]?=some x->vs[i]?=some v->kindOf x=some .local->
    bindL kindOf (P.zip vs) m x=some v
  | [],_,_,_,_,h,_,_=>by simp at h
  | _::_,[],_,_,_,_,h,_=>by simp at h
  | p :: P, w :: vs, 0, m, nd, h1, h2, hk => by
    simp at h1 h2;subst h1;subst h2
    show bindL kindOf ((p,w)::P.zip vs) m p=_
    unfold bindL
    rw [zj0 fun v hv=>(List.nodup_cons.mp nd).1 (List.of_mem_zip hv).1,if_pos hk]
    simp
  | p :: P, w :: vs, i + 1, m, nd, h1, h2, hk => by
    show bindL kindOf ((p,w)::P.zip vs) m x=_
    unfold bindL
    exact zj1 (i:=i) (List.nodup_cons.mp nd).2 (by simpa using h1) (by simpa using h2) hk
theorem zj3 {kindOf:Str->Option NameKind}{x:Str}{v:Value}:∀ {P:List Str}{vs:List Value}{i:Nat}{m:Str->Option Value},P.Nodup->P[i]?=some x->vs[i]?=some v->kindOf x≠some .local->
    bindC kindOf (P.zip vs) m x=some v
  | [],_,_,_,_,h,_,_=>by simp at h
  | _::_,[],_,_,_,_,h,_=>by simp at h
  | p :: P, w :: vs, 0, m, nd, h1, h2, hk => by
    simp at h1 h2;subst h1;subst h2
    show bindC kindOf ((p,w)::P.zip vs) m p=_
    unfold bindC
    rw [zj2 fun v hv=>(List.nodup_cons.mp nd).1 (List.of_mem_zip hv).1,if_neg hk]
    simp
  | p :: P, w :: vs, i + 1, m, nd, h1, h2, hk => by
    show bindC kindOf ((p,w)::P.zip vs) m x=_
    unfold bindC
    exact zj3 (i:=i) (List.nodup_cons.mp nd).2 (by simpa using h1) (by simpa using h2) hk
def start (N:List Str) (vs:List V):St:=vs.map some++List.replicate (N.length - vs.length) none
def zca (CX:CXT) (P:Program) (w:World) (K:PySem.W.Frag) (mg:Str->Option Value) (base:Heap) (N:List Str) (qual:Str) (scope:Scope) (f:Addr) (cd:Value) (A:Around) (outer:List Env) (s:Shared) (H:Hp) (E:XK):Cx where
  prog:=P
  w:=w
  K:=K
  mg:=mg
  base:=base
  A:=A.deeper (envOfC qual scope s.heap.objs.size f cd)
  N:=N
  s₀:=s
  H₀:=H
  env:=envOfC qual scope s.heap.objs.size f cd
  outer:=outer
  stack:=envOfC qual scope s.heap.objs.size f cd::outer
  ex:=[]
  calm:=true
  fn:=fun _=>true
  pn:=[]
  xe:=fun e s'=>wpAny (model P w) (A.deeper (envOfC qual scope s.heap.objs.size f cd)) (leaving (envOfC qual scope s.heap.objs.size f cd) e) (fun _ s''=>CX outer H s E e s'') (fun e' s''=>CX outer H s E e' s'') s'
theorem zl3 {sc:Scope}{n:Nat}{x:Str} (h:sc.names.lookup x=some .cell):∃ c,(cellsFrom n sc.names []).lookup x=some c:=by
  have q:=PySem.W.cellsFrom_some sc.names n [] (.inl h)
  exact Option.isSome_iff_exists.mp q
theorem zpb {CX:CXT}{P:Program}{w:World}{K:PySem.W.Frag}{mg:Str->Option Value}{base:Heap}{N ps:List Str}{qual:Str}{scope:Scope}{f:Addr}{cd:Value}{A:Around}{outer:List Env}{s s1:Shared}{H:Hp}{E:XK}{us:List Value}{vs:List V}
    (S:zbw N ps scope) (hd:A.handled=none) (e0:zfa P w K mg base A outer s H) (hl:vs.length=ps.length) (r:Vals vs us)
    (x:InCallC s s.heap.objs.size (bindL (envOfC qual scope s.heap.objs.size f cd).kindOf (ps.zip us) fun _=>none) (cellsFrom (s.heap.objs.size+1) scope.names []) (bindC (envOfC qual scope s.heap.objs.size f cd).kindOf (ps.zip us) fun _=>none) s1) :
    Inv (zca CX P w K mg base N qual scope f cd A outer s H E) [] (start N vs) H s1:=by
  have hpl:ps.length≤N.length:=by have:=congrArg List.length S.pre;rw [List.length_take] at this;omega
  obtain ⟨h1,tk,rfl,hk⟩:=x.done
  have noA:∀ b:Addr,b∉(zca CX P w K mg base N qual scope f cd A outer s H E).ex:=fun b z=>absurd (show b∈([]:List Addr) from z) (by simp)
  refine ⟨⟨e0.mod,S.kind,rfl,rfl,Nat.le_refl _,fun y z c h1 h2=>?_,fun y hy=>?_,fun y c _ h=>?_,fun _=>hd,Around.frames_deeper e0.frames,.inr ⟨rfl,rfl⟩,fun b z=>absurd z (noA b),e0.bs,e0.bsz,fun b _ _=>noA b,fun b z=>absurd z (noA b),e0.funs,e0.frf⟩,
    rfl,e0.bare,Un.kept hk,⟨_,x.toInCall.ns,fun i y v h1 h2 h3=>?_⟩,fun y c h=>⟨_,x.cell y c h⟩,e0.hok.fresh (Nat.le_refl _),fun y c h=>?_,fun p hp=>absurd (show p∈([]:List (Addr×Obj)) from hp) (by simp),e0.hok.kept hk,?_⟩
  · exact name_of_addr x.apart (PySem.mem_of_lookup h1) (PySem.mem_of_lookup h2)
  · have hy:scope.names.lookup y=some .cell \/ scope.names.lookup y=some .free:=hy
    rcases hy with hy | hy
    · exact zl3 hy
    · exact absurd rfl (S.nofree _ (PySem.mem_of_lookup hy))
  · exact Nat.le_of_lt (x.above y c (PySem.mem_of_lookup h))
  · have hi:i < vs.length:=by
      unfold start at h2
      by_cases hi:i < vs.length
      · exact hi
      · rw [List.getElem?_append_right (by simpa using hi)] at h2
        rw [List.getElem?_replicate] at h2
        split at h2<;>cases h2
    have ha:vs[i]?=some v:=by
      unfold start at h2
      rw [List.getElem?_append_left (by simpa using hi),List.getElem?_map] at h2
      cases e:vs[i]? with
      | none=>rw [e] at h2;cases h2
      | some a=>rw [e] at h2;cases h2;rfl
    obtain ⟨u,hu,rv⟩:=r.get ha
    have hp:ps[i]?=some y:=by
      rw [<- S.pre,List.getElem?_take_of_lt (by omega)];exact h1
    have ndP:ps.Nodup:=by rw [<- S.pre];exact S.nd.sublist (List.take_sublist _ _)
    refine ⟨u,rv,?_⟩
    rcases S.par y (List.mem_of_getElem? hp) with k | k
    · exact .inl ⟨k,zj1 ndP hp hu k⟩
    · obtain ⟨c,e⟩:=zl3 (n:=s.heap.objs.size+1) k
      refine .inr ⟨.inl k,c,e,?_⟩
      have q:=x.cell y c e
      rw [zj3 ndP hp hu (by show scope.names.lookup y≠_;rw [k];decide)] at q
      exact q
  · exact e0.hok.fresh (Nat.le_of_lt (x.above y c (PySem.mem_of_lookup h)))
  · unfold start
    show _=N.length
    rw [List.length_append,List.length_map,List.length_replicate]
    omega
theorem fn_of {CX:CXT}{P:Program}{w:World}{K:PySem.W.Frag}{mg:Str->Option Value}{base:Heap}{k:Nat}{f:Addr}{name qual:Str}{params:Arguments}{body:List Stmt}{scope:Scope}{dV kV doc pm cdv ct oc:Value}{an od:Option Addr}
    {osl:Array (Option Value)}{N ps:List Str}{sp:Sp} (lk:K.lookup f=some ⟨oc,od,.func (PySem.W.fnOf name qual params body scope dV kV doc pm an cdv ct),osl⟩) (hcd:PySem.W.codeIn K cdv qual=true) (S:zbw N ps scope)
    (len:∀ vs H Q E,sp vs H Q E->vs.length=ps.length)
    (hbody:∀ (A:Around) (outer:List Env) (s:Shared) (H:Hp) (vs:List V) (Q:VK) (E:XK),zbd k (A.deeper (envOfC qual scope s.heap.objs.size f cdv))->sp vs H Q E->
      ∃ t,PSs (zca CX P w K mg base N qual scope f cdv A outer s H E) body t /\ t {nx:=fun _ H'=>Q .non H',rt:=Q} (start N vs) H) :
    zdm P w K mg base CX (k+1) f (PySem.W.fnOf name qual params body scope dV kV doc pm an cdv ct) ps sp:=by
  refine ⟨len,fun A outer s H args us vs Q E hr e0 hb r hsp=>?_⟩
  have hl:=len _ _ _ _ hsp
  have KX:K.In s.heap:=e0.mod.kin.keeps fun b o e=>(e0.bs b o e).1
  have lim:s.heap.NoLimit:=e0.mod.nolimit.keeps fun b o e=>(e0.bs b o e).1
  have hkind:∀ y∈ps.zip us,scope.names.lookup y.1=some .local \/ (scope.names.lookup y.1=some .cell /\ ((cellsFrom (s.heap.objs.size+1) scope.names []).lookup y.1).isSome=true):=fun ⟨n,v⟩ hy=>by
    rcases S.par n (List.of_mem_zip hy).1 with q | q
    · exact .inl q
    · exact .inr ⟨q,PySem.W.cellsFrom_some _ _ _ (.inl q)⟩
  refine codeAny_call_function hr.depth (KX _ _ lk) rfl S.co S.gen rfl (PySem.W.codeRec_of KX hcd) (hb _ _ _ _ ?_)
  refine wpAny_newFunctionEnv_cells S.kind hkind fun env he s1 x=>?_
  subst he
  refine ⟨lim.keeps x.toInCall.keep,codeAny_func ?_⟩
  obtain ⟨t,ht,hq⟩:=hbody A outer s H vs Q E (hr.deeper _) hsp
  have I:Inv (zca CX P w K mg base N qual scope f cdv A outer s H E) [] (start N vs) H s1:=zpb S hr.hd e0 hl r x
  refine wpAny_mono (ht [] s1 (start N vs) H _ I hq) (fun fl s' hs=>?_) fun e s' hs=>hs
  have fin:∀ {σ':St}{H':Hp}{v:V}{u:Value},Inv (zca CX P w K mg base N qual scope f cdv A outer s H E) [] σ' H' s'->RelV v u->Q v H'->CE outer P w H s Q u s':=
    fun {σ' H' v u} J rv q=>⟨v,H',J.os,J.bare,J.base,J.hok,rv,q⟩
  cases fl with
  | ret u =>
    obtain ⟨v,σ',H',J,rv,q⟩:=hs
    exact fin J rv q
  | next =>
    obtain ⟨σ',H',J,q⟩:=hs
    exact fin (v:=V.non) (u:=Value.none) J rfl q
  | brk =>
    obtain ⟨_,_,_,q⟩:=hs
    exact False.elim q
  | cont =>
    obtain ⟨_,_,_,q⟩:=hs
    exact False.elim q
end L2
namespace L2
open PySem PySem.Spec PyProof.Rows
section
variable {X:Cx}{x:Str}{p pos:Pos}{e:Expr}{es:List Expr}{t:TA}{id T:String}{r:List V->Hp->VK->Prop}
def tCB (r:List V->Hp->VK->Prop) (t:TA):TE:=fun σ H Q=>t σ H fun vs H1=>r vs H1 Q
theorem zet (hc:zcn X (.builtin id) r) (hg:Gl X x) (hm:X.mg x=none) (hv:bootBuiltins x=some (.builtin id)) (ha:PA X (e::es) t) (hn:x≠"__name__":=by decide) (hdb:(x==("__debug__":Str))=false:=by decide)
    (he:starEach (e::es) X.env=(false,eval e X.env)::starEach es X.env:=by rfl) (hpl:(backTo pos (starEach es X.env)).any (·.1)=false:=by rfl):PE X (.Call (.Name x p) (e::es) [] pos) (tCB r t):=by
  intro pins s σ H Q I h
  refine wpAny_Call_Name_kw (zfi I hg hm hv ?_ hn hdb)
  exact PyProof.Rows.callWith_builtin1 (thn (ha pos pins s σ H _ I h) fun us s1 ⟨vs,H1,I1,r1,q1⟩=>hc pins s1 σ H1 vs us Q I1 r1 q1) he hpl
theorem zo5 (hc:zcn X (.type T) r) (hg:Gl X x) (hm:X.mg x=none) (hv:bootBuiltins x=some (.type T)) (ha:PA X (e::es) t) (hn:x≠"__name__":=by decide) (hdb:(x==("__debug__":Str))=false:=by decide)
    (he:starEach (e::es) X.env=(false,eval e X.env)::starEach es X.env:=by rfl) (hpl:(backTo pos (starEach es X.env)).any (·.1)=false:=by rfl):PE X (.Call (.Name x p) (e::es) [] pos) (tCB r t):=by
  intro pins s σ H Q I h
  refine wpAny_Call_Name_kw (zfi I hg hm hv ?_ hn hdb)
  exact PyProof.Rows.callWith_type1 (thn (ha pos pins s σ H _ I h) fun us s1 ⟨vs,H1,I1,r1,q1⟩=>hc pins s1 σ H1 vs us Q I1 r1 q1) he hpl
end
end L2
namespace HT
open PySem PyProof.Rows
section
open PySem.SeqAt
open PySem.AutoSeq1 (wpAny_loadPart')
open PySem.MeetsSeq PySem.MeetsSeq2 PySem.MeetsSeq3
end
section
variable {prog:Program}{w:World}{A:Around}{E:Value->Shared->Prop}{s:Shared}
theorem zt3 {t b:Addr}{vs ws:List Value}{Q:Value->Shared->Prop} (ht:IsTup s.heap t vs.toArray) (hb:IsTup s.heap b ws.toArray) (hv:vs≠[])
    (h1:ws=[]->Q (.ref t) s) (h2:ws≠[]->Q (.ref s.heap.objs.size) {s with heap:=s.heap.push {cls:=.type "tuple",data:=.seq (vs++ws).toArray}})
    (hsz:vs.length+ws.length≤sizeLine):wpAny (model prog w) A (binaryOp .Add (.ref t) (.ref b)) Q E s:=by
  obtain ⟨⟨cls,dd,data,sl⟩,ho,hc,n,hd⟩:=id ht
  obtain ⟨⟨cls2,dd2,data2,sl2⟩,ho2,hc2,n2,hd2⟩:=id hb
  simp only at hc hd hc2 hd2
  subst hc hd hc2 hd2
  have e:vs.toArray++ws.toArray=(vs++ws).toArray:=by simp
  by_cases hw:ws=[]
  · exact concat_meets ⟨_,ho,rfl⟩ ⟨_,ho2,rfl⟩ noFill_tuple_add seq_tuple_add PySem.F.slot_tuple_add PySem.F.entry_tuple_add (PySem.F.args_tuple_add_2 _ _)
      (tuple_addW1 t b vs.toArray ws.toArray n n2 dd dd2 sl sl2 (by simpa using hv) (by simp [hw])) ⟨ho,ho2,h1 hw⟩
  · refine concat_meets ⟨_,ho,rfl⟩ ⟨_,ho2,rfl⟩ noFill_tuple_add seq_tuple_add PySem.F.slot_tuple_add PySem.F.entry_tuple_add (PySem.F.args_tuple_add_2 _ _)
      (tuple_addW2 t b vs.toArray ws.toArray n n2 dd dd2 sl sl2 (by simpa using hv) (by simpa using hw) (by rw [List.size_toArray,List.size_toArray];exact hsz)) ⟨ho,ho2,?_⟩
    rw [e]
    exact h2 hw
def sIx (n d:Nat):Option Int->Nat
  | none=>d
  | some v=>if v < 0 then (v+(n:Int)).toNat else min v.toNat n
theorem sIx_le (n d:Nat) (hd:d≤n) (o:Option Int):sIx n d o≤n:=by
  cases o with
  | none=>exact hd
  | some v =>
    show (if v < 0 then (v+(n:Int)).toNat else min v.toNat n)≤n
    by_cases hv:v < 0
    · rw [if_pos hv];omega
    · rw [if_neg hv];exact Nat.min_le_right _ _
theorem zm3 (v:Int) (n d:Nat):(if v < 0 then max (v+(n:Int)) 0 else min v (n:Int))=((sIx n d (some v):Nat):Int):=by
  show (if v < 0 then max (v+(n:Int)) 0 else min v (n:Int))=(((if v < 0 then (v+(n:Int)).toNat else min v.toNat n):Nat):Int)
  by_cases hv:v < 0
  · simp only [if_pos hv];omega
  · simp only [if_neg hv];omega
theorem zn4 (lo hi:Option Int) (n:Nat):Builtin.Slice.sliceAdjust lo hi 1 (n:Int)=(((sIx n 0 lo:Nat):Int),((sIx n n hi:Nat):Int)):=by
  have h1:¬ ((1:Int) < 0):=by omega
  unfold Builtin.Slice.sliceAdjust
  simp only [h1,if_false]
  refine Prod.ext ?_ ?_
  · cases lo with
    | none=>rfl
    | some v=>exact zm3 v n 0
  · cases hi with
    | none=>rfl
    | some v=>exact zm3 v n n
theorem znd (i j:Nat):Builtin.Slice.slicePlaces (i:Int) (j:Int) 1=j - i:=by
  unfold Builtin.Slice.slicePlaces
  have h1:(1:Int) > 0:=by omega
  simp only [h1,if_true,Int.ediv_one]
  split<;>omega
theorem zhm {v:Value}{o:Option Int}{Q:Option Int->Shared->Prop} (p:IsPart v o) (h:Q o s):wpAny (model prog w) A (Builtin.Slice.slicePartIndex v) Q E s:=by
  cases p with
  | none=>exact slicePart_none h
  | int i t=>exact slicePart_int h
theorem zeq {sl:Addr}{vl vu:Value}{lo hi:Option Int}{n:Nat}{Q:Int×Int×Nat->Shared->Prop} (hs:s.heap.IsSliceOf sl vl vu .none) (pl:IsPart vl lo) (pu:IsPart vu hi)
    (h:Q (((sIx n 0 lo:Nat):Int),1,sIx n n hi - sIx n 0 lo) s):wpAny (model prog w) A (Builtin.Slice.sliceApplied (.ref sl) (pure (n:Int))) Q E s:=by
  obtain ⟨os,hos,hcs,hds⟩:=id hs
  unfold Builtin.Slice.sliceApplied Builtin.Slice.sliceFields
  refine wpAny_bind (wpAny_bind (wpAny_field hos hds (x:=vl) rfl (wpAny_bind (wpAny_field hos hds (x:=vu) rfl (wpAny_bind (wpAny_field hos hds (x:=.none) rfl (wpAny_pure ?_)))))))
  refine wpAny_bind (slicePart_none ?_)
  show wpAny _ _ (if ((1:Int)==0)=true then _ else _) _ _ s
  rw [if_neg (by decide)]
  refine wpAny_bind (zhm pl (wpAny_bind (zhm pu (wpAny_bind (wpAny_pure ?_)))))
  show wpAny _ _ (match Builtin.Slice.sliceAdjust lo hi 1 (n:Int) with | (lo,hi)=>pure (lo,(1:Int),Builtin.Slice.slicePlaces lo hi 1)) _ _ s
  rw [zn4 lo hi n]
  show wpAny _ _ (pure (((sIx n 0 lo:Nat):Int),(1:Int),Builtin.Slice.slicePlaces ((sIx n 0 lo:Nat):Int) ((sIx n n hi:Nat):Int) 1)) _ _ s
  rw [znd]
  exact wpAny_pure h
theorem zqn (xs:Array Value) (i k:Nat):((List.range k).filterMap fun (m:Nat)=>xs[((i:Int)+(m:Int) * 1).toNat]?).toArray=((xs.toList.drop i).take k).toArray:=by
  have e:(fun (m:Nat)=>xs[((i:Int)+(m:Int) * 1).toNat]?)=fun m=>xs[i+m]?:=by
    funext m
    have:((i:Int)+(m:Int) * 1).toNat=i+m:=by omega
    rw [this]
  rw [e]
  have:=pick_run xs i k
  rw [List.filterMap_map] at this
  have e2:((fun x=>xs[x]?)∘fun x=>i+x)=fun m=>xs[i+m]?:=rfl
  rw [e2] at this
  rw [this]
theorem zgx {t sl:Addr}{items:Array Value}{vl vu:Value}{lo hi:Option Int}{Q:Value->Shared->Prop} (ht:IsTup s.heap t items) (hs:s.heap.IsSliceOf sl vl vu .none) (pl:IsPart vl lo) (pu:IsPart vu hi)
    (hw:¬ (sIx items.size 0 lo=0 /\ sIx items.size items.size hi=items.size))
    (h:Q (.ref s.heap.objs.size) {s with heap:=s.heap.push {cls:=.type "tuple",data:=.seq ((items.toList.drop (sIx items.size 0 lo)).take (sIx items.size items.size hi - sIx items.size 0 lo)).toArray}})
    (hsz:items.size≤sizeLine):wpAny (model prog w) A (getItem (.ref t) (.ref sl)) Q E s:=by
  have htake:sizeOk (.seq ((items.toList.drop (sIx items.size 0 lo)).take (sIx items.size items.size hi - sIx items.size 0 lo)).toArray):=by
    show ((items.toList.drop (sIx items.size 0 lo)).take (sIx items.size items.size hi - sIx items.size 0 lo)).toArray.size≤sizeLine
    rw [List.size_toArray,List.length_take,List.length_drop,Array.length_toList]
    omega
  have hj:sIx items.size items.size hi≤items.size:=sIx_le _ _ (Nat.le_refl _) hi
  obtain ⟨os,hos,hcs,hds⟩:=id hs
  have hTs:s.TypeIs (.ref sl) "slice":=⟨os,hos,hcs⟩
  unfold getItem
  try with_reducible refine wpAny_holding ?_
  first | refine wpAny_bind (wpAny_pure ?_) | skip
  refine wpAny_bind (wpAny_sequenceKey ht.typeIs (by decide) ?_)
  refine wpAny_bind (wpAny_callSpecial?_slot (name:=Str.ofString "__getitem__") ht.typeIs PyProof.Rows.slot_tuple_getitem
    (wpAny_call_entry PyProof.Rows.slot_tuple_getitem ht.typeIs entry_tuple_getitem ?_ (args_tuple_getitem _ _)))
  show wpAny _ _ (Builtin.Tuple.tupleItemsOf (.ref t) >>= _) _ _ s
  refine wpAny_bind (tupleItemsOf_ ht ?_)
  refine wpAny_bind (wpAny_typeOf hTs ?_)
  rw [if_pos (by decide)]
  refine wpAny_bind (zeq hs pl pu ?_)
  have hno:¬ ((((sIx items.size 0 lo:Nat):Int)==0&&(1:Int)==1&&(sIx items.size items.size hi - sIx items.size 0 lo)==items.size)=true):=by
    intro q
    rw [Bool.and_eq_true,Bool.and_eq_true] at q
    have q1:((sIx items.size 0 lo:Nat):Int)=0:=eq_of_beq q.1.1
    have q2:sIx items.size items.size hi - sIx items.size 0 lo=items.size:=eq_of_beq q.2
    exact hw ⟨by omega,by omega⟩
  show wpAny _ _ (if (((sIx items.size 0 lo:Nat):Int)==0&&(1:Int)==1&&(sIx items.size items.size hi - sIx items.size 0 lo)==items.size)=true then _ else _) _ _ s
  rw [if_neg hno,zqn]
  first
    | exact wpAny_bind (m:=Builtin.Tuple.tupleExact _) (wpAny_newObj_type (wpAny_pure ⟨_,rfl,wpAny_pure h⟩) htake)
    | exact wpAny_bind (m:=Builtin.Tuple.tupleExact _) (wpAny_newObj_type (wpAny_bind (wpAny_pure (wpAny_pure ⟨_,rfl,wpAny_pure h⟩))) htake)
    | exact wpAny_bind (wpAny_bind (m:=Builtin.Tuple.tupleExact _) (wpAny_newObj_type (wpAny_pure (wpAny_pure ⟨_,rfl,wpAny_pure h⟩)) htake))
    | exact wpAny_bind (wpAny_bind (m:=Builtin.Tuple.tupleExact _) (wpAny_newObj_type (wpAny_pure ⟨_,rfl,wpAny_pure h⟩) htake))
end
end HT
namespace L2
open PySem PySem.Spec PyProof.Rows
abbrev TO:=St->Hp->(Option Int->Hp->Prop)->Prop
def PO (X:Cx) (e:Option Expr) (t:TO):Prop:=
  ∀ (pins : List (Addr × Obj)) (s : Shared) (σ : St) (H : Hp) (Q : Option Int -> Hp -> Prop), Inv X pins σ H s -> t σ H Q ->
    wpAny (model X.prog X.w) X.A (evalPart e X.env) (fun u s'=>∃ o H',Inv X pins σ H' s' /\ IsPart u o /\ Q o H') X.xe s
def zsi:TO:=fun _ H Q=>Q none H
def tPart (t:TE):TO:=fun σ H Q=>t σ H fun x H1=>∃ i,x=.int i /\ Q (some i) H1
section
variable {X:Cx}{e:Expr}{te:TE}{lo hi:Option Expr}{tl th:TO}{pos p2:Pos}
theorem zs3:PO X none zsi:=by
  intro pins s σ H Q I h
  rw [evalPart_none]
  exact wpAny_pure ⟨none,H,I,.none,h⟩
theorem zs2 (h:PE X e te):PO X (some e) (tPart te):=by
  intro pins s σ H Q I hw
  rw [evalPart_some]
  refine thn (h pins s σ H _ I hw) fun u s1 ⟨x,H1,I1,r1,q1⟩=>?_
  obtain ⟨i,rfl,q⟩:=q1
  obtain ⟨t,rfl⟩:=r1
  exact ⟨some i,H1,I1,.int i t,q⟩
def SlR (X:Cx) (r:V->Option Int->Option Int->Hp->VK->Prop):Prop:=
  ∀ (pins : List (Addr × Obj)) (s : Shared) (σ : St) (H : Hp) (x : V) (v vl vu : Value) (lo hi : Option Int) (sl : Addr) (Q : VK), Inv X pins σ H s -> RelV x v -> s.heap.IsSliceOf sl vl vu .none -> IsPart vl lo -> IsPart vu hi -> r x lo hi H Q ->
    ∃ T id,typeLookup (.type T) "__getitem__"=pure (some (.builtin id)) /\ s.TypeIs v T /\ wpAny (model X.prog X.w) X.A (getItem v (.ref sl)) (EP X pins σ Q) X.xe s
theorem SlR.or {r r':V->Option Int->Option Int->Hp->VK->Prop} (h:SlR X r) (h':SlR X r'):SlR X (fun x lo hi H Q=>r x lo hi H Q \/ r' x lo hi H Q):=by
  intro pins s σ H x v vl vu lo hi sl Q I rx hs pl pu q
  rcases q with q | q
  · exact h pins s σ H x v vl vu lo hi sl Q I rx hs pl pu q
  · exact h' pins s σ H x v vl vu lo hi sl Q I rx hs pl pu q
def tSl (r:V->Option Int->Option Int->Hp->VK->Prop) (te:TE) (tl th:TO):TE:=fun σ H Q=>te σ H fun x H1=>tl σ H1 fun l H2=>th σ H2 fun u H3=>r x l u H3 Q
theorem zqp {r:V->Option Int->Option Int->Hp->VK->Prop} (hr:SlR X r) (he:PE X e te) (hl:PO X lo tl) (hu:PO X hi th):PE X (.Subscript e (.Slice lo hi none p2) pos) (tSl r te tl th):=by
  intro pins s σ H Q I h
  refine Subscript_ (thn (he pins s σ H _ I h) fun v s1 ⟨x,H1,I1,r1,q1⟩=>?_)
  refine wpAny_Slice (thn (hl pins s1 σ H1 _ I1 q1) fun vl s2 ⟨l,H2,I2,pl,q2⟩=>thn (hu pins s2 σ H2 _ I2 q2) fun vu s3 ⟨u,H3,I3,pu,q3⟩=>?_)
  rw [evalPart_none]
  refine wpAny_pure ?_
  have I4:Inv X pins σ H3 {s3 with heap:=s3.heap.push {cls:=.type "slice",data:=.fields #[vl,vu,.none]}}:=I3.kept (t':=s3.toks) fun b ob q=>Heap.get?_push_of_some _ q
  obtain ⟨T,id,hT,ht,hg⟩:=hr pins {s3 with heap:=s3.heap.push {cls:=.type "slice",data:=.fields #[vl,vu,.none]}} σ H3 x v vl vu l u s3.heap.objs.size Q I4 r1 (Heap.IsSliceOf.new ..) pl pu q3
  show wpAny (model X.prog X.w) X.A (subscriptTail e (.Slice lo hi none p2) v (.ref s3.heap.objs.size)) (EP X pins σ Q) X.xe {s3 with heap:=s3.heap.push {cls:=.type "slice",data:=.fields #[vl,vu,.none]}}
  exact tail_any (ops:=[.ref s3.heap.objs.size,v]) ht hT hg (by with_unfolding_all rfl)
def zge (xs:List V) (lo hi:Option Int):List V:=(xs.drop (HT.sIx xs.length 0 lo)).take (HT.sIx xs.length xs.length hi - HT.sIx xs.length 0 lo)
theorem zgz (xs:List V) (lo hi:Option Int):(zge xs lo hi).length≤xs.length:=by
  unfold zge
  rw [List.length_take,List.length_drop]
  omega
def rSlT (K:PySem.W.Frag):V->Option Int->Option Int->Hp->VK->Prop:=fun x lo hi H Q=>∃ a xs,x=.ref a /\ SqT K H a xs /\
  ¬ (HT.sIx xs.length 0 lo=0 /\ HT.sIx xs.length xs.length hi=xs.length) /\ ∀ p,H p=none->Q (.ref p) (upd H p (.tup (zge xs lo hi)))
theorem sl_tup:SlR X (rSlT X.K):=by
  intro pins s σ H x v vl vu lo hi sl Q I rx hs pl pu h
  obtain ⟨a,xs,rfl,hx,hw,q⟩:=h
  cases rx
  obtain ⟨its,r,ht,hz⟩:=I.tuple hx
  have hlen:its.toArray.size=xs.length:=by rw [List.size_toArray];exact r.length.symm
  refine ⟨"tuple",_,PyProof.Rows.slot_tuple_getitem.lookup,ht.typeIs,?_⟩
  refine HT.zgx ht hs pl pu (by rw [hlen];exact hw) ?_ (by rw [hlen];exact hz)
  rw [hlen]
  refine ⟨.ref s.heap.objs.size,_,I.laid (t':=s.toks) (o:=.tup (zge xs lo hi)) (fun b ob q=>Heap.get?_push_of_some _ q) (Nat.le_refl _) ?_,rfl,q _ (I.hok.fresh (Nat.le_refl _))⟩
  exact ⟨Nat.le_trans (zgz xs lo hi) hz,_,(r.drop (HT.sIx xs.length 0 lo)).take (HT.sIx xs.length xs.length hi - HT.sIx xs.length 0 lo),IsTup.new _ _⟩
def rCatT (K:PySem.W.Frag):R2:=fun x y H Q=>∃ a b xs ys,x=.ref a /\ y=.ref b /\ SqT K H a xs /\ SqT K H b ys /\ xs≠[] /\ xs.length+ys.length≤sizeLine /\
  (ys=[]->Q (.ref a) H) /\ (ys≠[]->∀ p,H p=none->Q (.ref p) (upd H p (.tup (xs++ys))))
theorem Vals.nil_iff {xs:List V}{us:List Value} (r:Vals xs us):us=[]↔xs=[]:=by
  cases r with
  | nil=>simp
  | cons _ _=>simp
theorem ztb:OpR X (binaryOp .Add) (rCatT X.K):=by
  intro pins s σ H x y v u Q I rx ry h
  obtain ⟨a,b,xs,ys,rfl,rfl,ha,hb,hx,hz,q1,q2⟩:=h
  cases rx
  cases ry
  obtain ⟨its,r1,p1,_⟩:=I.tuple ha
  obtain ⟨its2,r2,p2,_⟩:=I.tuple hb
  refine HT.zt3 p1 p2 (fun z=>hx (r1.nil_iff.mp z)) (fun z=>⟨.ref a,H,I,rfl,q1 (r2.nil_iff.mp z)⟩) (fun z=>?_) (by rw [<- r1.length,<- r2.length];exact hz)
  refine ⟨.ref s.heap.objs.size,_,I.laid (t':=s.toks) (o:=.tup (xs++ys)) (fun b ob q=>Heap.get?_push_of_some _ q) (Nat.le_refl _) ?_,rfl,q2 (fun w=>z (r2.nil_iff.mpr w)) _ (I.hok.fresh (Nat.le_refl _))⟩
  exact ⟨by rw [List.length_append];exact hz,_,r1.append r2,IsTup.new _ _⟩
end
end L2
namespace L2
open PySem PySem.Spec PyProof.Rows
def ixN (n:Nat) (i:Int):Option Nat:=if 0≤i then (if i < n then some i.toNat else none) else if -(n:Int)≤i then some (i+n).toNat else none
def atI {α:Type} (xs:List α) (i:Int):Option α:=(ixN xs.length i).bind fun j=>xs[j]?
theorem zmy {n:Nat}{i:Int}{j:Nat} (h:ixN n i=some j):seqIndex? i n=some j /\ j < n /\ -(n:Int)≤i /\ i < n:=by
  unfold ixN at h
  by_cases h0:0≤i
  · rw [if_pos h0] at h
    by_cases h1:i < n
    · rw [if_pos h1] at h
      have e:i.toNat=j:=Option.some.inj h
      exact ⟨by rw [seqIndex_of h0 h1,e],by omega,by omega,h1⟩
    · rw [if_neg h1] at h;cases h
  · rw [if_neg h0] at h
    by_cases h1:-(n:Int)≤i
    · rw [if_pos h1] at h
      have e:(i+n).toNat=j:=Option.some.inj h
      exact ⟨by rw [seqIndex_neg (by omega) h1,e],by omega,h1,by omega⟩
    · rw [if_neg h1] at h;cases h
theorem zje {α:Type}{xs:List α}{i:Int}{v:α} (h:atI xs i=some v):∃ j,seqIndex? i xs.length=some j /\ xs[j]?=some v /\ j < xs.length /\ -(xs.length:Int)≤i /\ i < xs.length:=by
  unfold atI at h
  cases e:ixN xs.length i with
  | none=>rw [e] at h;cases h
  | some j =>
    rw [e] at h
    obtain ⟨h1,h2,h3,h4⟩:=zmy e
    exact ⟨j,h1,h,h2,h3,h4⟩
def zgw (b:Expr):Prop:=∀ o i,subscripted b false o i=operate [o,i] (getItem o i)
def IxR (X:Cx) (r:R2):Prop:=
  ∀ (value slice : Expr) (pins : List (Addr × Obj)) (s : Shared) (σ : St) (H : Hp) (x y : V) (v u : Value) (Q : VK), Inv X pins σ H s -> RelV x v -> RelV y u -> r x y H Q ->
    subscripted slice false v u=operate [v,u] (getItem v u)->wpAny (model X.prog X.w) X.A (subscriptTail value slice v u) (EP X pins σ Q) X.xe s
def MtR (X:Cx) (id:String) (r:V->List V->Hp->VK->Prop):Prop:=
  ∀ (pins : List (Addr × Obj)) (s : Shared) (σ : St) (H : Hp) (x : V) (xs : List V) (v : Value) (us : List Value) (Q : VK), Inv X pins σ H s -> RelV x v -> Vals xs us -> r x xs H Q ->
    wpAny (model X.prog X.w) X.A (call (.builtin id) (v::us)) (EP X pins σ Q) X.xe s
section
variable {X:Cx}{a b:Expr}{ta tb:TE}{pos:Pos}
theorem IxR.or {r r':R2} (h:IxR X r) (h':IxR X r'):IxR X (fun x y H Q=>r x y H Q \/ r' x y H Q):=by
  intro value slice pins s σ H x y v u Q I rx ry q hs
  rcases q with q | q
  · exact h value slice pins s σ H x y v u Q I rx ry q hs
  · exact h' value slice pins s σ H x y v u Q I rx ry q hs
theorem MtR.or {id:String}{r r':V->List V->Hp->VK->Prop} (h:MtR X id r) (h':MtR X id r'):MtR X id (fun x xs H Q=>r x xs H Q \/ r' x xs H Q):=by
  intro pins s σ H x xs v us Q I rx rs q
  rcases q with q | q
  · exact h pins s σ H x xs v us Q I rx rs q
  · exact h' pins s σ H x xs v us Q I rx rs q
theorem pe_ix {r:R2} (hr:IxR X r) (ha:PE X a ta) (hb:PE X b tb) (hs:zgw b):PE X (.Subscript a b pos) (tOp r ta tb):=by
  intro pins s σ H Q I h
  exact Subscript_ (binT ha hb I h fun v u s2 x y H2 I2 rx ry q=>hr a b pins s2 σ H2 x y v u Q I2 rx ry q (hs _ _))
def rIxL (K:PySem.W.Frag):R2:=fun x y H Q=>∃ p xs i v,x=.ref p /\ y=.int i /\ SqL K H p xs /\ atI xs i=some v /\ Q v H
def rIxT (K:PySem.W.Frag):R2:=fun x y H Q=>∃ p xs i v,x=.ref p /\ y=.int i /\ SqT K H p xs /\ atI xs i=some v /\ Q v H
def rIxS:R2:=fun x y H Q=>∃ z i c,x=.str z /\ y=.int i /\ z.length≤sizeLine /\ atI z.cps.toList i=some c /\ Q (.str ⟨#[c]⟩) H
theorem zti:IxR X (rIxL X.K):=by
  intro value slice pins s σ H x y v u Q I rx ry h hs
  obtain ⟨p,xs,i,z,rfl,rfl,hq,he,q⟩:=h
  cases rx
  obtain ⟨t,rfl⟩:=ry
  obtain ⟨its,r,pl,hz⟩:=I.list hq
  obtain ⟨j,h1,h2,h3,h4,h5⟩:=zje he
  obtain ⟨w,ew,rw'⟩:=r.get h2
  have hl:=r.length
  have hn:=zex
  have fin:EP X pins σ Q w s:=⟨z,H,I,rw',q⟩
  by_cases h0:0≤i
  · have hj:i.toNat=j:=by
      rw [seqIndex_of h0 h5] at h1
      exact Option.some.inj h1
    exact item_listR pl.isList h0 (by omega) (by rw [hj];simpa using ew) fin hs
  · have hj:(i+(its.toArray.size:Int)).toNat=j:=by
      rw [seqIndex_neg (by omega) h4] at h1
      rw [List.size_toArray,<- hl]
      exact Option.some.inj h1
    exact subscriptTail_builtinR (x:=w) pl.isList.typeIs slot_list_getitem.lookup
      (wpAny_getItem_list_neg (Q:=fun r s'=>r=w /\ EP X pins σ Q r s') pl.isList (by omega) (by rw [List.size_toArray]<;>omega) (by omega) (by rw [hj];simpa using ew) ⟨rfl,fin⟩) hs
theorem ix_tup:IxR X (rIxT X.K):=by
  intro value slice pins s σ H x y v u Q I rx ry h hs
  obtain ⟨p,xs,i,z,rfl,rfl,hq,he,q⟩:=h
  cases rx
  obtain ⟨t,rfl⟩:=ry
  obtain ⟨its,r,pl,hz⟩:=I.tuple hq
  obtain ⟨j,h1,h2,h3,h4,h5⟩:=zje he
  obtain ⟨w,ew,rw'⟩:=r.get h2
  have hl:=r.length
  have hn:=zex
  have fin:EP X pins σ Q w s:=⟨z,H,I,rw',q⟩
  exact subscriptTail_builtinR (x:=w) pl.typeIs slot_tuple_getitem.lookup
    (getItem_tuple (j:=j) (Q:=fun r s'=>r=w /\ EP X pins σ Q r s') pl (by omega) (by omega) (by rw [List.size_toArray,<- hl];exact h1) (by simpa using ew) ⟨rfl,fin⟩) hs
theorem ix_str:IxR X rIxS:=by
  intro value slice pins s σ H x y v u Q I rx ry h hs
  obtain ⟨z,i,c,rfl,rfl,hz,he,q⟩:=h
  obtain ⟨t,rfl⟩:=rx
  obtain ⟨t',rfl⟩:=ry
  obtain ⟨j,h1,h2,h3,h4,h5⟩:=zje he
  have hl:z.cps.toList.length=z.length:=by simp [Str.length]
  rw [hl] at h1 h4 h5
  have hn:=zex
  exact tail_any (typeIs_str s z t) slot_str_getitem.lookup (getItem_str (c:=c) (by
    have e1:decide (i < -(2 ^ 63:Int))=false:=decide_eq_false (by omega)
    have e2:decide (i≥2 ^ 63)=false:=decide_eq_false (by omega)
    rw [e1,e2,Bool.or_false]) (by rw [h1];simpa using h2) ⟨.str ⟨#[c]⟩,H,I.tok _,⟨_,rfl⟩,q⟩) hs
def rIx (K:PySem.W.Frag):R2:=fun x y H Q=>rIxL K x y H Q \/ rIxT K x y H Q \/ rIxS x y H Q
theorem ix_seq:IxR X (rIx X.K):=zti.or (ix_tup.or ix_str)
theorem znm (its:List Value) (n j:Nat) (u:Value):Obj.mapSeq (·.setIfInBounds j u) {cls:=.type "list",data:=.seq its.toArray n}={cls:=.type "list",data:=.seq (its.set j u).toArray n}:=by
  simp [Obj.mapSeq]
theorem Inv.lst {pins:List (Addr×Obj)}{σ:St}{H:Hp}{s:Shared}{p:Addr}{xs:List V} (I:Inv X pins σ H s) (h:H p=some (.lst xs)) :
    ∃ (its:List Value) (n:Nat),Vals xs its /\ s.heap.get? p=some {cls:=.type "list",data:=.seq its.toArray n} /\ xs.length≤sizeLine:=by
  obtain ⟨z,its,n,r,e⟩:=I.hok p _ h
  exact ⟨its,n,r,e,z⟩
theorem Inv.lstUpd {pins:List (Addr×Obj)}{σ:St}{H:Hp}{s:Shared}{p:Addr}{xs ys:List V}{its its':List Value}{n n':Nat}{f:Obj->Obj} (I:Inv X pins σ H s) (h:H p=some (.lst xs))
    (ho:s.heap.get? p=some {cls:=.type "list",data:=.seq its.toArray n}) (hf:f {cls:=.type "list",data:=.seq its.toArray n}={cls:=.type "list",data:=.seq its'.toArray n'}) (r:Vals ys its') (hz:ys.length≤sizeLine) (t:Nat) :
    Inv X pins σ (upd H p (.lst ys)) {s with heap:=s.heap.update p f,toks:=t}:=by
  have e:(s.heap.update p f).get? p=some {cls:=.type "list",data:=.seq its'.toArray n'}:=by
    rw [Heap.get?_update_self f ho (by rw [hf]<;>rfl),hf]
  refine I.write (x:=p) (e:=p) (by rw [h];trivial) (.inl rfl) (fun b u hb q=>(Heap.get?_update_other _ _ (Ne.symm hb)).trans q) ⟨_,e⟩ ?_
  exact ⟨hz,its',n',r,e⟩
def rSetL:V->V->V->Hp->(Hp->Prop)->Prop:=fun o i v H Q=>∃ p xs k j,o=.ref p /\ i=.int k /\ H p=some (.lst xs) /\ ixN xs.length k=some j /\ Q (upd H p (.lst (xs.set j v)))
theorem set_list:PSet X rSetL:=by
  intro pins s σ H o i v ov iv u Q I ro ri rv h
  obtain ⟨p,xs,k,j,rfl,rfl,hp,hj,q⟩:=h
  cases ro
  obtain ⟨t,rfl⟩:=ri
  obtain ⟨its,n,r,ho,hz⟩:=I.lst hp
  obtain ⟨h1,h2,h3,h4⟩:=zmy hj
  have hl:=r.length
  have hn:=zex
  have I':Inv X pins σ (upd H p (.lst (xs.set j v))) {s with heap:=s.heap.update p (Obj.mapSeq (·.setIfInBounds j u))}:=
    I.lstUpd hp ho (znm its n j u) (r.set rv j) (by rw [List.length_set];exact hz) s.toks
  by_cases h0:0≤k
  · have hk:k.toNat=j:=by
      rw [seqIndex_of h0 h4] at h1
      exact Option.some.inj h1
    exact PySem.W.ki_setAt ho h0 (by omega) (by rw [List.size_toArray,<- hl];exact h4) (by rw [hk];exact ⟨_,I',q⟩)
  · have hk:(k+(its.toArray.size:Int)).toNat=j:=by
      rw [seqIndex_neg (by omega) h3] at h1
      rw [List.size_toArray,<- hl]
      exact Option.some.inj h1
    exact PySem.W.ki_setBack ho (by omega) (by rw [List.size_toArray,<- hl];exact h3) (by omega) (by rw [hk];exact ⟨_,I',q⟩)
theorem zk7 (lo hi:Option Int) (n:Nat):(sliceBounds lo hi none n).1=((HT.sIx n 0 lo:Nat):Int) /\ (sliceBounds lo hi none n).2.1=((HT.sIx n n hi:Nat):Int) /\ (sliceBounds lo hi none n).2.2=1:=by
  refine ⟨?_,?_,rfl⟩
  · cases lo with
    | none=>simp [sliceBounds,HT.sIx]
    | some i =>
      simp only [sliceBounds,HT.sIx,Option.getD_none,show (1:Int) > 0 by decide,if_true]
      by_cases h:i < 0
      · simp only [h,if_true]<;>omega
      · simp only [h,if_false]<;>omega
  · cases hi with
    | none=>simp [sliceBounds,HT.sIx]
    | some i =>
      simp only [sliceBounds,HT.sIx,Option.getD_none,show (1:Int) > 0 by decide,if_true]
      by_cases h:i < 0
      · simp only [h,if_true]<;>omega
      · simp only [h,if_false]<;>omega
theorem zkc (its:List Value) (lo hi:Option Int):slicePick its.toArray lo hi none=((its.drop (HT.sIx its.length 0 lo)).take (HT.sIx its.length its.length hi - HT.sIx its.length 0 lo)).toArray:=by
  obtain ⟨h1,h2,h3⟩:=zk7 lo hi its.toArray.size
  unfold slicePick
  rw [h1,h2,h3]
  simp only [sliceRange_one,pick_run,List.size_toArray]<;>rfl
def rSlL (K:PySem.W.Frag):V->Option Int->Option Int->Hp->VK->Prop:=fun x lo hi H Q=>∃ a xs,x=.ref a /\ SqL K H a xs /\ ∀ p,H p=none->Q (.ref p) (upd H p (.lst (zge xs lo hi)))
theorem zso:SlR X (rSlL X.K):=by
  intro pins s σ H x v vl vu lo hi sl Q I rx hs pl pu h
  obtain ⟨a,xs,rfl,hx,q⟩:=h
  cases rx
  obtain ⟨its,r,ht,hz⟩:=I.list hx
  have hlen:=r.length
  refine ⟨"list",_,slot_list_getitem.lookup,ht.isList.typeIs,?_⟩
  refine wpAny_getItem_list_slice ht.isList hs pl pu .none (by simp) ?_ (by rw [List.size_toArray]<;>omega)
  rw [zkc,<- hlen]
  refine ⟨.ref s.heap.objs.size,_,I.laid (t':=s.toks) (o:=.lst (zge xs lo hi)) (fun b ob q=>Heap.get?_push_of_some _ q) (Nat.le_refl _) ?_,rfl,q _ (I.hok.fresh (Nat.le_refl _))⟩
  exact ⟨Nat.le_trans (zgz xs lo hi) hz,_,0,(r.drop (HT.sIx xs.length 0 lo)).take (HT.sIx xs.length xs.length hi - HT.sIx xs.length 0 lo),Heap.get?_push_size _ rfl⟩
theorem zl6:zcn X (.builtin "len") (fun xs H Q=>∃ p ys,xs=[.ref p] /\ (SqL X.K H p ys \/ SqT X.K H p ys) /\ Q (.int ys.length) H):=by
  intro pins s σ H xs us Q I r h
  obtain ⟨p,ys,rfl,hq,q⟩:=h
  obtain ⟨u,rfl,rx⟩:=vals1 r
  cases rx
  have hn:=zex
  rcases hq with hq | hq
  · obtain ⟨its,r',pl,hz⟩:=I.list hq
    have hlen:=r'.length
    exact Calls.call_len_list pl.isList (by simp only [List.size_toArray]<;>omega) ⟨.int ys.length,H,I.tok _,⟨s.toks+1,by rw [List.size_toArray,hlen]⟩,q⟩
  · obtain ⟨its,r',pl,hz⟩:=I.tuple hq
    have hlen:=r'.length
    exact len_tuple pl (by simp only [List.size_toArray]<;>omega) ⟨.int ys.length,H,I.tok _,⟨s.toks+1,by rw [List.size_toArray,hlen]⟩,q⟩
theorem zl5:zcn X (.builtin "len") (fun xs H Q=>∃ z,xs=[.str z] /\ z.length≤sizeLine /\ Q (.int z.length) H):=by
  intro pins s σ H xs us Q I r h
  obtain ⟨z,rfl,hz,q⟩:=h
  obtain ⟨u,rfl,t,rfl⟩:=vals1 r
  have hn:=zex
  exact len_str (by omega) ⟨.int z.length,H,I.tok _,⟨_,rfl⟩,q⟩
theorem zcn.or {f:Value}{r r':List V->Hp->VK->Prop} (h:zcn X f r) (h':zcn X f r'):zcn X f (fun xs H Q=>r xs H Q \/ r' xs H Q):=by
  intro pins s σ H xs us Q I rs q
  rcases q with q | q
  · exact h pins s σ H xs us Q I rs q
  · exact h' pins s σ H xs us Q I rs q
theorem zl4:zcn X (.type "list") (fun xs H Q=>∃ p ys,xs=[.ref p] /\ (SqL X.K H p ys \/ SqT X.K H p ys) /\ ∀ l,H l=none->Q (.ref l) (upd H l (.lst ys))):=by
  intro pins s σ H xs us Q I r h
  obtain ⟨p,ys,rfl,hq,q⟩:=h
  obtain ⟨u,rfl,rx⟩:=vals1 r
  cases rx
  have fin:∀ (its:List Value),Vals ys its->ys.length≤sizeLine->∀ (h':Heap) (c':Nat),(∀ b o',s.heap.get? b=some o'->h'.get? b=some o')->
      h'.get? s.heap.objs.size=some {cls:=.type "list",dict:=none,data:=.seq its.toArray c',slots:=#[]}->EP X pins σ Q (.ref s.heap.objs.size) {s with heap:=h'}:=fun its r' hz h' c' kp e=>
    ⟨.ref s.heap.objs.size,_,I.laid (t':=s.toks) kp (Nat.le_refl _) (show zb8 X.prog X.w _ h' _ (.lst ys) from ⟨hz,its,c',r',e⟩),rfl,q _ (I.hok.fresh (Nat.le_refl _))⟩
  rcases hq with hq | hq
  · obtain ⟨its,r',pl,hz⟩:=I.list hq
    have hlen:=r'.length
    obtain ⟨o,ho,hc,n,hd⟩:=pl.isList
    exact call_list_seq p (.inl rfl) ho hc hd (fun h' c' kp e=>fin its r' hz h' c' kp e) (by simp only [List.size_toArray]<;>omega)
  · obtain ⟨its,r',pl,hz⟩:=I.tuple hq
    have hlen:=r'.length
    obtain ⟨o,ho,hc,n,hd⟩:=pl
    exact call_list_seq p (.inr rfl) ho hc hd (fun h' c' kp e=>fin its r' hz h' c' kp e) (by simp only [List.size_toArray]<;>omega)
def tyV (K:PySem.W.Frag) (T:String) (x:V) (H:Hp):Prop:=match x with
  | .str _=>T="str"
  | .int _=>T="int"
  | .ref p=>(T="list" /\ ∃ xs,SqL K H p xs) \/ (T="tuple" /\ ∃ o,K.lookup p=some o /\ o.cls=.type "tuple" /\ o.dict=none) \/
      (T="dict" /\ ((∃ kvs,H p=some (.dK kvs)) \/ ∃ kvs,H p=some (.dT kvs))) \/ (T="set" /\ ∃ S n,H p=some (.set S n))
  | _=>False
theorem tyV_is {pins:List (Addr×Obj)}{σ:St}{H:Hp}{s:Shared}{T:String}{x:V}{v:Value} (I:Inv X pins σ H s) (r:RelV x v) (ty:tyV X.K T x H) :
    s.TypeIs v T /\ ∀ a,v=.ref a->∃ ob,s.heap.get? a=some ob /\ ob.dict=none:=by
  cases x with
  | str z =>
    obtain ⟨t,rfl⟩:=r
    cases (show T="str" from ty)
    exact ⟨typeIs_str s z t,fun _ e=>nomatch e⟩
  | int i =>
    obtain ⟨t,rfl⟩:=r
    cases (show T="int" from ty)
    exact ⟨typeIs_int s i t,fun _ e=>nomatch e⟩
  | ref p =>
    cases r
    rcases ty with ⟨rfl,xs,hq⟩ | ⟨rfl,o,hk,hc,hd⟩ | ⟨rfl,hk⟩ | ⟨rfl,S,n,hk⟩
    · obtain ⟨its,_,pl,_⟩:=I.list hq
      refine ⟨pl.isList.typeIs,fun a e=>?_⟩
      cases e
      obtain ⟨o,n,e,c,hd,_⟩:=pl
      exact ⟨o,e,hd⟩
    · refine ⟨⟨o,I.kIn p o hk,hc⟩,fun a e=>?_⟩
      cases e
      exact ⟨o,I.kIn _ o hk,hd⟩
    · have z:∃ o,s.heap.get? p=some o /\ o.ExactDict:=by
        rcases hk with ⟨kvs,hk⟩ | ⟨kvs,hk⟩
        · obtain ⟨_,_,_,_,o,_,_,e,ex,_⟩:=I.hok p _ hk
          exact ⟨o,e,ex⟩
        · obtain ⟨_,_,_,_,o,_,_,e,ex,_⟩:=I.hok p _ hk
          exact ⟨o,e,ex⟩
      obtain ⟨o,e,ex⟩:=z
      refine ⟨⟨o,e,ex.1⟩,fun a e2=>?_⟩
      cases e2
      exact ⟨o,e,ex.2.1⟩
    · obtain ⟨o,_,_,_,e,ex,_⟩:=I.hok p _ hk
      refine ⟨⟨o,e,ex.1⟩,fun a e2=>?_⟩
      cases e2
      exact ⟨o,e,ex.2.1⟩
  | _=>exact False.elim ty
def tBM (K:PySem.W.Frag) (T:String) (r:V->List V->Hp->VK->Prop) (to:TE) (t:TA):TE:=fun σ H Q=>to σ H fun x H1=>tyV K T x H1 /\ t σ H1 fun xs H2=>r x xs H2 Q
variable {o e:Expr}{es:List Expr}{to:TE}{t:TA}{name:Str}{apos cpos:Pos}{T id:String}{r:V->List V->Hp->VK->Prop}
theorem zne (pa:PlainAttrs T) (slot:Slot T name id) (hty:typeOf (.builtin id)=pure (.type "method_descriptor")) (hm:MtR X id r) (ho:PE X o to) (ha:PA X (e::es) t)
    (hbase:attributeBase o name X.env (eval o X.env)=eval o X.env:=by rfl)
    (hfew:((backTo cpos (starEach (e::es) X.env)).all (fun x=>!x.1)&&(backToKw cpos (keywordEach [] X.env)).all (fun x=>x.1.isSome)
      && decide ((e::es).length+([]:List Keyword).length+(if ([]:List Keyword).isEmpty then 0 else 1) < 30))=true:=by rfl)
    (hline:(apos.endLine==cpos.line)=true:=by rfl) (hs:starEach (e::es) X.env=(false,eval e X.env)::starEach es X.env:=by rfl) (hplain:(backTo cpos (starEach es X.env)).any (·.1)=false:=by rfl) :
    PE X (.Call (.Attribute o name apos) (e::es) [] cpos) (tBM X.K T r to t):=by
  intro pins s σ H Q I h
  refine wpAny_Call_method_late hbase hfew hline rfl (thn (ho pins s σ H _ I h) fun v s1 ⟨x,H1,I1,r1,ty,q1⟩=>?_)
  obtain ⟨h1,h2⟩:=tyV_is I1 r1 ty
  refine ⟨T,id,pa,slot,hty,h1,h2,?_⟩
  have hA:=ha cpos pins s1 σ H1 _ I1 q1
  rw [hs] at hA ⊢
  refine Calls.callWith_builtin (by show (false||(backTo cpos (starEach es X.env)).any (·.1))=false;rw [hplain]<;>rfl) (Calls.evalArgs_plain ?_)
  exact thn hA fun us s2 ⟨vs,H2,I2,r2,q2⟩=>hm pins s2 σ H2 x vs v us Q I2 r1 r2 q2
end
end L2
namespace L2
open PySem PySem.Spec PyProof.Rows
def MtM (X:Cx) (id:String) (r:V->List V->Hp->VK->Prop):Prop:=
  ∀ (pins : List (Addr × Obj)) (s : Shared) (σ : St) (H : Hp) (x : V) (xs : List V) (v : Value) (us : List Value) (Q : VK), Inv X pins σ H s -> RelV x v -> Vals xs us -> r x xs H Q ->
    wpAny (model X.prog X.w) X.A (call (.builtin id) (v::us)) (EP X pins σ Q) X.xe s
theorem Vals.one:∀ {x:V}{us:List Value},Vals [x] us->∃ u,us=[u] /\ RelV x u
  | _,_,.cons r .nil=>⟨_,rfl,r⟩
theorem Vals.two:∀ {x y:V}{us:List Value},Vals [x,y] us->∃ u v,us=[u,v] /\ RelV x u /\ RelV y v
  | _,_,_,.cons r (.cons q .nil)=>⟨_,_,rfl,r,q⟩
theorem Vals.zero:∀ {us:List Value},Vals [] us->us=[]
  | _,.nil=>rfl
theorem Vals.reverse {xs:List V}{us:List Value} (h:Vals xs us):Vals xs.reverse us.reverse:=by
  induction h with
  | nil=>exact .nil
  | cons r t ih=>rw [List.reverse_cons,List.reverse_cons];exact Vals.append ih (.cons r .nil)
theorem Vals.rep {xs:List V}{us:List Value} (h:Vals xs us):∀ k:Nat,Vals (List.replicate k xs).flatten (List.replicate k us).flatten
  | 0=>.nil
  | k + 1 => by
    rw [List.replicate_succ,List.replicate_succ,List.flatten_cons,List.flatten_cons]
    exact Vals.append h (Vals.rep h k)
theorem foldl_rep (its:List Value):∀ (k:Nat) (acc:List Value),
    List.foldl (fun x1 x2=>x1++x2) acc.toArray (List.replicate k its.toArray)=(acc++(List.replicate k its).flatten).toArray
  | 0,acc=>by simp
  | k + 1, acc => by
    have e:acc.toArray++its.toArray=(acc++its).toArray:=by simp
    have e2:(acc++its)++(List.replicate k its).flatten=acc++(List.replicate (k+1) its).flatten:=by
      rw [List.replicate_succ,List.flatten_cons,List.append_assoc]
    rw [<- e2,<- foldl_rep its k (acc++its),<- e,List.replicate_succ,List.foldl_cons]
section
variable {X:Cx}{pins:List (Addr×Obj)}{σ:St}{H:Hp}{s:Shared}{l b:Addr}{xs ys zs:List V}
theorem Inv.lset {its its':List Value}{n:Nat}{f:Array Value->Array Value}{t':Nat} (I:Inv X pins σ H s) (hH:H l=some (.lst xs))
    (e:s.heap.get? l=some {cls:=.type "list",data:=.seq its.toArray n}) (hf:f its.toArray=its'.toArray) (hv:Vals ys its') (hz:ys.length≤sizeLine) :
    Inv X pins σ (upd H l (.lst ys)) {s with heap:=s.heap.update l (Obj.mapSeq f),toks:=t'}:=by
  have q:=PySem.IsL.update e f
  rw [hf] at q
  refine I.write (x:=l) (e:=l) (by rw [hH];exact trivial) (.inl rfl) (fun b' u hb hu=>(Heap.get?_update_other s.heap (Obj.mapSeq f) (Ne.symm hb)).trans hu) ⟨_,q⟩ ?_
  exact ⟨hz,its',_,hv,q⟩
theorem Inv.lnew {its:List Value}{t':Nat} (I:Inv X pins σ H s) (hv:Vals ys its) (hz:ys.length≤sizeLine) :
    Inv X pins σ (upd H s.heap.objs.size (.lst ys)) {s with heap:=s.heap.push {cls:=.type "list",data:=.seq its.toArray},toks:=t'}:=
  I.laid (fun _ _ q=>Heap.get?_push_of_some _ q) (Nat.le_refl _) ⟨hz,its,0,hv,Heap.get?_push_size _ rfl⟩
theorem Inv.fresh (I:Inv X pins σ H s):H s.heap.objs.size=none:=I.hok.fresh (Nat.le_refl _)
theorem Inv.lstM (I:Inv X pins σ H s) (hH:H l=some (.lst xs)):xs.length≤sizeLine /\ ∃ (its:List Value) (n:Nat),Vals xs its /\ xs.length=its.length /\ s.heap.get? l=some {cls:=.type "list",data:=.seq its.toArray n}:=by
  obtain ⟨z,its,n,r,e⟩:=I.hok l _ hH
  exact ⟨z,its,n,r,r.length,e⟩
theorem zlp {n:Nat} (h:n≤sizeLine):Builtin.List.listTooLong n=false:=by
  unfold Builtin.List.listTooLong
  exact decide_eq_false (by omega)
end
section
variable {X:Cx}
def zsv:V->List V->Hp->VK->Prop:=fun x vs H Q=>∃ l xs y,x=.ref l /\ vs=[y] /\ H l=some (.lst xs) /\ xs.length < sizeLine /\ Q .non (upd H l (.lst (xs++[y])))
theorem zpa:MtM X "list.append" zsv:=by
  intro pins s σ H x vs v us Q I rx rv h
  obtain ⟨l,xs,y,rfl,rfl,hH,hz,q⟩:=h
  cases rx
  obtain ⟨u,rfl,ru⟩:=rv.one
  obtain ⟨z,its,n,r,hl,e⟩:=I.lstM hH
  refine call_meets F.slot_list_append ⟨_,e,rfl⟩ F.entry_list_append (F.args_list_append_2 _ _) (PySem.list_append l its.toArray n u (by rw [List.size_toArray];omega)) ⟨e,?_⟩
  refine ⟨.non,_,I.lset (its':=its++[u]) hH e (by simp) (r.append (.cons ru .nil)) ?_,rfl,q⟩
  rw [List.length_append,List.length_singleton]
  omega
def zsu:V->List V->Hp->VK->Prop:=fun x vs H Q=>∃ l b xs zs,x=.ref l /\ vs=[.ref b] /\ H l=some (.lst xs) /\ H b=some (.lst zs) /\ xs.length+zs.length≤sizeLine /\ Q .non (upd H l (.lst (xs++zs)))
theorem mt_extend:MtM X "list.extend" zsu:=by
  intro pins s σ H x vs v us Q I rx rv h
  obtain ⟨l,b,xs,zs,rfl,rfl,hH,hB,hz,q⟩:=h
  cases rx
  obtain ⟨u,rfl,ru⟩:=rv.one
  cases ru
  obtain ⟨z,its,n,r,hl,e⟩:=I.lstM hH
  obtain ⟨z2,its2,n2,r2,hl2,e2⟩:=I.lstM hB
  have hsz:its.toArray.size+its2.toArray.size≤sizeLine:=by rw [List.size_toArray,List.size_toArray];omega
  have hlong:¬ (!its.toArray.isEmpty&&Builtin.List.listTooLong (its.toArray.size+its2.toArray.size))=true:=by
    rw [zlp hsz,Bool.and_false]
    exact Bool.false_ne_true
  refine call_meets F.slot_list_extend ⟨_,e,rfl⟩ F.entry_list_extend (F.args_list_extend_2 _ _)
    (AutoSeq1.list_extend_list_list_0 l its.toArray n b its2.toArray n2 hlong (by rw [List.size_toArray];omega) (by omega)) ⟨e,e2,?_⟩
  refine ⟨.non,_,I.lset (its':=its++its2) hH e (by simp) (r.append r2) ?_,rfl,q⟩
  rw [List.length_append]
  omega
def rCat:R2:=fun x y H Q=>∃ l b xs zs,x=.ref l /\ y=.ref b /\ H l=some (.lst xs) /\ H b=some (.lst zs) /\ xs.length+zs.length≤sizeLine /\ ∀ p,H p=none->Q (.ref p) (upd H p (.lst (xs++zs)))
theorem op_cat:OpR X (binaryOp .Add) rCat:=by
  intro pins s σ H x y v u Q I rx ry h
  obtain ⟨l,b,xs,zs,rfl,rfl,hH,hB,hz,q⟩:=h
  cases rx
  cases ry
  obtain ⟨z,its,n,r,hl,e⟩:=I.lstM hH
  obtain ⟨z2,its2,n2,r2,hl2,e2⟩:=I.lstM hB
  refine PySem.P.add_list e e2 ?_ (by rw [List.size_toArray,List.size_toArray];omega)
  have ea:its.toArray++its2.toArray=(its++its2).toArray:=by simp
  rw [ea]
  exact ⟨.ref _,_,I.lnew (t':=s.toks) (r.append r2) (by rw [List.length_append];omega),rfl,q _ I.fresh⟩
def rRep:R2:=fun x y H Q=>∃ l k xs,x=.ref l /\ y=.int k /\ H l=some (.lst xs) /\ -(2 ^ 63)≤k /\ k < 2 ^ 63 /\ xs.length * k.toNat≤sizeLine /\
  ∀ p,H p=none->Q (.ref p) (upd H p (.lst (List.replicate k.toNat xs).flatten))
theorem len_rep {α:Type} (xs:List α) (k:Nat):(List.replicate k xs).flatten.length=k * xs.length:=by
  induction k with
  | zero=>simp
  | succ k ih=>rw [List.replicate_succ,List.flatten_cons,List.length_append,ih,Nat.succ_mul,Nat.add_comm]
theorem op_rep:OpR X (binaryOp .Mult) rRep:=by
  intro pins s σ H x y v u Q I rx ry h
  obtain ⟨l,k,xs,rfl,rfl,hH,h1,h2,hz,q⟩:=h
  cases rx
  obtain ⟨t,rfl⟩:=ry
  obtain ⟨z,its,n,r,hl,e⟩:=I.lstM hH
  have hlen:its.toArray.size * k.toNat≤sizeLine:=by rw [List.size_toArray,<- hl];exact hz
  have hcap:¬ its.toArray.size * k.toNat > (2 ^ 63 - 1) / 8:=by
    have:(sizeLine:Nat)≤(2 ^ 63 - 1) / 8:=by decide
    omega
  have hfit:¬ (!Builtin.List.listFitsIndex k)=true:=by
    rw [fitsIndex_both h1 h2]
    exact Bool.false_ne_true
  have hlong:¬ Builtin.List.listTooLong (its.toArray.size * k.toNat)=true:=by
    rw [zlp hlen]
    exact Bool.false_ne_true
  have hnew:List.foldl (fun x1 x2=>x1++x2) #[] (List.replicate (if its.toArray.isEmpty=true then 0 else k.toNat) its.toArray)=(List.replicate k.toNat its).flatten.toArray:=by
    have f0:∀ m:Nat,List.foldl (fun x1 x2=>x1++x2) #[] (List.replicate m its.toArray)=(List.replicate m its).flatten.toArray:=fun m=>by
      have:=foldl_rep its m []
      rw [List.nil_append] at this
      exact this
    rw [f0]
    cases its with
    | nil=>simp
    | cons a r'=>rw [if_neg (by simp)]
  refine wpAny_binaryOp_repeat_ref (T:="list") (U:="int") (by decide) ⟨_,e,rfl⟩ (fun s'=>typeIs_int s' k t) noFill_list_mul F.fills_int_mul F.slot_int_rmul repeat_list F.slot_int_index.lookup
    (call_meets F.slot_int_rmul (typeIs_int s k t) F.entry_int_rmul (F.args_int_rmul_2 _ _) (int___rmul___int_list k t l its.toArray n)
      ⟨e,rfl,⟨_,e,rfl⟩,call_meets F.slot_list_mul ⟨_,e,rfl⟩ F.entry_list_mul (F.args_list_mul_2 _ _) (AutoListH.list___mul___list_int_3 l its.toArray n k t hfit hcap hlong) ⟨e,?_⟩⟩)
  rw [hnew]
  exact ⟨.ref _,_,I.lnew (t':=s.toks) (r.rep k.toNat) (by rw [len_rep,Nat.mul_comm];exact hz),rfl,q _ I.fresh⟩
end
section
variable {prog:Program}{w:World}{A:Around}{E:Value->Shared->Prop}{s:Shared}
end
section
variable {X:Cx}
end
end L2
namespace Att
open PySem PySem.W PySem.Calls PyProof.Rows
theorem zh7 {P:Params}{h:Heap}:∀ (ns:List Int) (vs:List Value),WellAll P h vs (ns.map WData.int)->IntsAre vs ns:=by
  intro ns
  induction ns with
  | nil =>
    intro vs w
    rw [List.map_nil] at w
    cases w
    exact .nil
  | cons n ns ih =>
    intro vs w
    rw [List.map_cons] at w
    cases w with
    | cons a b =>
      cases a
      exact .cons _ _ (ih _ b)
theorem zov {l:OpenLaw}{n:Nat} (hn:l.most=some n) {P:Params}{h:Heap}{args:List WData}{vals:List Value}
    (hpre:l.row.toRowW.claim.pre args=true) (hwl:WellAll P h vals args) :
    ∃ a vs ns,vals=[Value.ref a] /\ args=[WData.list (ns.map WData.int)] /\ h.get? a=some {cls:=.type "list",data:=.seq vs.toArray} /\ IntsAre vs ns /\ ns.length≤n:=by
  have hsh:WShape.hasAll [] args [.list .int]=true:=(pre_splitW hpre).1
  have hc:l.pre.holds [] {args:=args}=true:=(pre_splitW hpre).2
  obtain ⟨d,r,rfl,h1,h2⟩:=hasAllW_cons hsh
  obtain rfl:=hasAllW_nil h2
  obtain ⟨xs,rfl,h3⟩:=hasW_list h1
  obtain ⟨ns,rfl⟩:=items_int h3
  have hlen:ns.length≤n:=by
    unfold OpenLaw.pre at hc
    have h4:(WTm.not (.lt (.lit (.int (n:Int))) (.len (.arg 0)))).holds [] {args:=[.list (ns.map .int)]}=true:=by
      have h4:=(holds_andW hc).1
      rw [hn] at h4
      exact h4
    have h5:=condW_of h4 (w_not (w_lt w_lit (w_len_list (w_arg rfl))))
    rw [List.length_map] at h5
    refine Nat.le_of_not_lt fun q=>?_
    have q':(n:Int) < ((ns.length:Nat):Int):=by omega
    first
      | (rw [decide_eq_true q'] at h5;exact absurd h5 (by decide))
      | (simp at h5;omega)
  cases hwl with
  | cons w1 w2 =>
    cases w2
    cases w1 with
    | list ho hall=>exact ⟨_,_,ns,rfl,rfl,ho,zh7 ns _ hall,hlen⟩
theorem zo1 (l:OpenLaw) (args:List WData):l.row.toRowW.claim.post args (.bool true) args=true:=
  postW_of (r:=l.row.toRowW) (X:=(true==true))
    (show WShape.has [] (.bool true) .bool=true by first | rfl | decide | simp [WShape.has,WShape.arms,WShape.armsAll])
    (show (WTm.eq .res (.lit (.bool true))).value [] {args:=args,res:=some (.bool true),after:=args}=some (.bool (true==true)) from w_eq_bool (w_res rfl) w_lit) rfl
theorem attach_call {l:OpenLaw}{n:Nat}{q:Program}{loose:List Str}{XP:(Str->Option Value)->Heap->Prop}{YP:World->Heap->Prop}{d:DefRec}
    (hn:l.most=some n) (hdf:d.params.defaults=[])
    (call:∀ (w:World) (s₀ s₁:Shared) (mg mb:Str->Option Value) (fa:Addr) (o:Obj) (pm cd doc:Value) (a:Addr) (vs:List Value) (ns:List Int),
      Ground q loose [] XP w s₀ mg mb s₁.heap->YP w s₁.heap->
      s₁.heap.get? fa=some o->o.data=.func (docDef d.name d.params d.body d.scope pm cd doc)->s₁.heap.CodeRec cd d.name->mg d.name=some (.ref fa)->
      s₁.heap.get? a=some {cls:=.type "list",data:=.seq vs.toArray}->IntsAre vs ns->ns.length≤n->s₁.gens=#[]->
      codeAny (model l.prog w) callerA (.call (.ref fa) ⟨[.ref a],[]⟩) (fun r s'=>r=.ok (.ret (.bool true)) /\ OldK s₁.heap s'.heap /\ s'.os=s₁.os /\ AllBare s'.gens) s₁) :
    WalkO q loose XP YP l.row.toRowW d [] (fun f vs=>PySem.call f vs):=by
  intro w s₀ s₁ mg mb G Y fa o pm cd doc dV kV ho hd hcd hD hmg hg args vals as hpre hlay hrd hwl hlo
  obtain rfl:dV=.none:=Dflts.none hD hdf
  obtain rfl:kV=.none:=Dflts.noKw hD
  obtain ⟨a,vs,ns,rfl,rfl,hobj,hints,hlen⟩:=zov hn hpre hwl
  refine enter_call (codeAny_mono (call w s₀ s₁ mg mb fa o pm cd doc a vs ns G Y ho (fd_plain hd) hcd hmg hobj hints hlen hg) fun r s' hq=>?_)
  obtain ⟨rfl,h2,h3,h4⟩:=hq
  exact ⟨.inl ⟨.bool true,.bool true,[],rfl,fun _=>rfl,.bool true,zo1 l _,fun _=>⟨List.Pairwise.nil,fun _ hm=>(nomatch hm)⟩⟩,h2,h3,h4⟩
section
variable {prog:Program}{w:World}{A:Around}{E:Value->Shared->Prop}{s:Shared}{K:Frag}
end
end Att
namespace L2
open PySem PySem.Spec PyProof.Rows
theorem zji:∀ {vs:List Value}{ns:List Int},IntsAre vs ns->Vals (ns.map V.int) vs
  | _,_,.nil=>.nil
  | _,_,.cons n t h=>.cons ⟨t,rfl⟩ (zji h)
def Only (H:Hp):Prop:=∀ b,H b=none \/ ∃ o xs,H b=some (.frz o (.lst xs))
theorem zqw {P:Program}{w:World}{K:PySem.W.Frag}{mg mb:Str->Option Value}{CX:CXT}{k:Nat}{fa a:Addr}{fd:FuncData}{x:Str}{sp:Sp}{s₁:Shared}{vs:List Value}{ns:List Int}
    (KX:K.In s₁.heap) (hns:s₁.heap.Ns mainGlobals mg) (hb:s₁.heap.Ns builtinsNs mb) (hbb:∀ x:Str,x≠"__name__"->mb x=bootBuiltins x) (hlim:s₁.heap.NoLimit) (hg:s₁.gens=#[])
    (ha:s₁.heap.get? a=some {cls:=.type "list",data:=.seq vs.toArray}) (hi:IntsAre vs ns) (hl:ns.length≤sizeLine) (hr:zbd k callerA)
    (F:∀ base:Heap,K.In base->base.Ns mainGlobals mg->zdm P w K mg base CX k fa fd [x] sp) (hbind:∀ (s:Shared) (u:Value),BindsTo s fd ⟨[u],[]⟩ [(x,u)])
    (hsp:∀ H:Hp,Only H->SqL K H a (ns.map V.int)->sp [.ref a] H (fun v _=>v=.bl true) fun _ _ _=>False)
    (hCX:∀ H e s',CX [] H s₁ (fun _ _ _=>False) e s'->False) :
    codeAny (model P w) callerA (.call (.ref fa) ⟨[.ref a],[]⟩) (fun r s'=>r=.ok (.ret (.bool true)) /\ OldK s₁.heap s'.heap /\ s'.os=s₁.os /\ AllBare s'.gens) s₁:=by
  have rv:=zji hi
  have lenV:=hi.length
  have core:∀ H:Hp,Only H->SqL K H a (ns.map V.int)->HOk P w H s₁.heap->(∀ b,H b≠none->b=a)->(H a≠none->K.lookup a=none)->
      codeAny (model P w) callerA (.call (.ref fa) ⟨[.ref a],[]⟩) (fun r s'=>r=.ok (.ret (.bool true)) /\ OldK s₁.heap s'.heap /\ s'.os=s₁.os /\ AllBare s'.gens) s₁:=by
    intro H hO hS hok hA hK
    have base_of:∀ {b:Addr}{o:Obj},s₁.heap.get? b=some o->H b=none->(zfv s₁.heap H).get? b=some o:=fun e n=>zqx e n
    have noA:∀ {b:Addr}{o:Obj}{es:Array DictEntry}{ep:Nat},s₁.heap.get? b=some o->o.data=.dict es ep->H b=none:=fun {b o es ep} e d=>by
      cases q:H b with
      | none=>rfl
      | some u =>
        have e':b=a:=hA b (by rw [q];simp)
        subst e'
        rw [ha] at e;cases e
        have d':Data.seq vs.toArray _=Data.dict es ep:=d
        cases d'
    have nsK:∀ {b:Addr}{m:Str->Option Value},s₁.heap.Ns b m->(zfv s₁.heap H).Ns b m:=fun {b m} ⟨o,es,ep,e,d,r⟩=>⟨o,es,ep,base_of e (noA e d),d,r⟩
    have hKb:K.In (zfv s₁.heap H):=fun b o e=>base_of (KX b o e) (by
      cases q:H b with
      | none=>rfl
      | some u =>
        have e':b=a:=hA b (by rw [q];simp)
        subst e'
        rw [hK (by rw [q];simp)] at e;cases e)
    have hM:Mod K mg (zfv s₁.heap H):=⟨hKb,nsK hns,⟨mb,nsK hb,hbb⟩,let ⟨mc,h1,h2⟩:=hlim;⟨mc,nsK h1,h2⟩⟩
    have e0:zfa P w K mg (zfv s₁.heap H) callerA [] s₁ H:=⟨rfl,hM,fun b o e=>ztd e,Nat.le_of_eq (zpd _ _),trivial,fun b hb=>absurd (show b∈([]:List Addr) from hb) (by simp),hok,.of_eq hg⟩
    refine codeAny_mono ((F _ hKb (nsK hns)).run callerA [] s₁ H ⟨[.ref a],[]⟩ [.ref a] [.ref a] _ _ hr e0 (hbind s₁ (.ref a)) (.cons rfl .nil) (hsp H hO hS)) fun r s' h=>?_
    cases r with
    | error e=>exact (hCX H e s' h).elim
    | ok fl =>
      cases fl with
      | next=>exact False.elim h
      | brk=>exact False.elim h
      | cont=>exact False.elim h
      | ret u =>
        obtain ⟨v,H',os,bare,un,hok',r',q⟩:=h
        have q':v=.bl true:=q
        subst q'
        obtain rfl:u=Value.bool true:=r'
        refine ⟨rfl,OldK.of_keep fun b o e=>?_,os,bare⟩
        cases q:H b with
        | none=>exact un.keep b o e q (by intro z;exact absurd (show b∈([]:List Addr) from z) (by simp)) (by simp)
        | some u =>
          rcases hO b with z | ⟨ob,xs,z⟩
          · rw [q] at z;cases z
          · have z2:=un.frzs b ob _ z
            obtain ⟨e1,_⟩:=hok b _ z
            obtain ⟨e2,_⟩:=hok' b _ z2
            rw [e] at e1;cases e1
            exact e2
  cases hk:K.lookup a with
  | some o =>
    have e:=KX a o hk
    rw [ha] at e
    cases e
    refine core (fun _=>none) (fun _=>.inl rfl) (.inr ⟨_,vs.toArray,_,hk,rfl,rfl,rfl,by rw [List.size_toArray,lenV];exact hl,by simpa using rv⟩) (fun b u z=>by have z':(none:Option HO)=some u:=z;cases z') (fun b z=>absurd rfl z) fun z=>absurd rfl z
  | none =>
    refine core (fun b=>if b=a then some (.frz {cls:=.type "list",data:=.seq vs.toArray} (.lst (ns.map V.int))) else none) (fun b=>?_) (.inl (.inr ⟨{cls:=.type "list",data:=.seq vs.toArray},if_pos rfl⟩)) (fun b u z=>?_) (fun b z=>?_) fun _=>hk
    · by_cases hb:b=a
      · exact .inr ⟨_,_,if_pos hb⟩
      · exact .inl (if_neg hb)
    · by_cases hb:b=a
      · have z':=(if_pos hb).symm.trans z
        cases z'
        subst hb
        exact ⟨ha,by rw [List.length_map];exact hl,vs,_,rv,ha⟩
      · have z':=(if_neg hb).symm.trans z
        cases z'
    · by_cases hb:b=a
      · exact hb
      · exact absurd (if_neg hb) z
end L2
namespace L2
open PySem PySem.Spec PyProof.Rows
theorem zse {l:PySem.W.OpenLaw}{n k:Nat}{q:Program}{loose:List Str}{XP:(Str->Option Value)->Heap->Prop}{YP:World->Heap->Prop}{d:DefRec}{K:Params->PySem.W.Frag}{CX:World->CXT}{sp:World->Sp}{x:Str}
    (hn:l.most=some n) (hn2:n≤sizeLine) (hdf:d.params.defaults=[]) (hr:zbd k callerA)
    (hY:∀ (w:World) (h:Heap),YP w h->(K w.params).In h)
    (F:∀ (w:World) (mg:Str->Option Value) (fa:Addr) (h:Heap),(K w.params).In h->h.Ns mainGlobals mg->mg d.name=some (.ref fa)->
      ∃ fd : FuncData, (∀ (s : Shared) (u : Value), BindsTo s fd ⟨[u], []⟩ [(x, u)]) /\
        ∀ base:Heap,(K w.params).In base->base.Ns mainGlobals mg->zdm l.prog w (K w.params) mg base (CX w) k fa fd [x] (sp w))
    (hsp:∀ (w:World) (H:Hp) (a:Addr) (ns:List Int),ns.length≤n->Only H->SqL (K w.params) H a (ns.map V.int)->sp w [.ref a] H (fun v _=>v=.bl true) fun _ _ _=>False)
    (hCX:∀ (w:World) (H:Hp) (s:Shared) (e:Value) (s':Shared),CX w [] H s (fun _ _ _=>False) e s'->False) :
    PySem.W.WalkO q loose XP YP l.row.toRowW d [] (fun f vs=>PySem.call f vs):=by
  refine Att.attach_call hn hdf fun w s₀ s₁ mg mb fa o pm cd doc a vs ns G Y ho hd hcd hmg hobj hints hlen hg=>?_
  have KX:=hY w _ Y
  obtain ⟨fd,hb,hF⟩:=F w mg fa _ KX G.T.g hmg
  exact zqw KX G.T.g G.T.b G.T.builtins G.T.nolimit hg hobj hints (Nat.le_trans hlen hn2) hr hF hb (fun H hO hS=>hsp w H a ns hlen hO hS) fun H e s'=>hCX w H s₁ e s'
end L2
namespace L2
open PySem PySem.Spec PyProof.Rows
def zds (s:Stmt):Arguments:=match s with
  | .FunctionDef _ a _ _ _ _ _ _ _ _=>a
  | _=>{posonlyargs:=[],args:=[],vararg:=none,kwonlyargs:=[],kw_defaults:=[],kwarg:=none,defaults:=[]}
def zbe (s:Stmt):List Stmt:=match s with
  | .FunctionDef _ _ b _ _ _ _ _ _ _=>b
  | _=>[]
def zai (s:Stmt):Scope:=match s with
  | .FunctionDef _ _ _ _ _ _ sc _ _ _=>sc
  | _=>{kind:=.function,names:=[],isGenerator:=false,isCoroutine:=false}
abbrev CX0:CXT:=fun _ _ _ _ _ _=>False
abbrev E0:XK:=fun _ _ _=>False
structure Fun (K:PySem.W.Frag) (x qual:Str) (st:Stmt) (f:Addr) (fd:FuncData):Prop where
  ex:∃ (oc:Value) (od:Option Addr) (kV doc pm:Value) (an:Option Addr) (cdv ct:Value) (osl:Array (Option Value)),
    fd=PySem.W.fnOf x qual (zds st) (zbe st) (zai st) .none kV doc pm an cdv ct /\ K.lookup f=some ⟨oc,od,.func fd,osl⟩ /\ PySem.W.codeIn K cdv qual=true
  kp:PySem.W.keepIn K (.ref f)=true
section
variable {P:Program}{w:World}{K:PySem.W.Frag}{mg:Str->Option Value}{base:Heap}
theorem Fun.ok {x qual:Str}{st:Stmt}{f:Addr}{fd:FuncData}{N ps:List Str}{k:Nat}{sp:Sp} (F:Fun K x qual st f fd) (S:zbw N ps (zai st)) (len:∀ vs H Q E,sp vs H Q E->vs.length=ps.length)
    (hbody:∀ (cdv:Value) (A:Around) (outer:List Env) (s:Shared) (H:Hp) (vs:List V) (Q:VK) (E:XK),zbd k (A.deeper (envOfC qual (zai st) s.heap.objs.size f cdv))->sp vs H Q E->
      ∃ t,PSs (zca CX0 P w K mg base N qual (zai st) f cdv A outer s H E).nox (zbe st) t /\ t {nx:=fun _ H'=>Q .non H',rt:=Q} (start N vs) H):zdm P w K mg base CX0 (k+1) f fd ps sp:=by
  obtain ⟨oc,od,kV,doc,pm,an,cdv,ct,osl,rfl,lk,hcd⟩:=F.ex
  refine fn_of lk hcd S len fun A outer s H vs Q E hr hsp=>?_
  obtain ⟨t,h,q⟩:=hbody cdv A outer s H vs Q E hr hsp
  exact ⟨t,h.nox,q⟩
theorem Fun.binds {x qual:Str}{st:Stmt}{f:Addr}{fd:FuncData}{ps:List Str} (F:Fun K x qual st f fd)
    (h:∀ (kV doc pm:Value) (an:Option Addr) (cdv ct:Value) (us:List Value),us.length=ps.length->bindArgs (PySem.W.fnOf x qual (zds st) (zbe st) (zai st) .none kV doc pm an cdv ct) ⟨us,[]⟩=pure (ps.zip us)):Binds K fd ps []:=by
  obtain ⟨oc,od,kV,doc,pm,an,cdv,ct,osl,rfl,lk,hcd⟩:=F.ex
  exact .all (h kV doc pm an cdv ct)
theorem zpf {x qual:Str}{st:Stmt}{f:Addr}{oc:Value}{od an:Option Addr}{osl:Array (Option Value)}{kV doc pm cdv ct:Value} (l:K.lookup f=some ⟨oc,od,.func (PySem.W.fnOf x qual (zds st) (zbe st) (zai st) .none kV doc pm an cdv ct),osl⟩)
    (c:PySem.W.codeIn K cdv qual=true) (k:PySem.W.keepIn K (.ref f)=true):Fun K x qual st f (PySem.W.fnOf x qual (zds st) (zbe st) (zai st) .none kV doc pm an cdv ct):=⟨⟨oc,od,kV,doc,pm,an,cdv,ct,osl,rfl,l,c⟩,k⟩
end
section
variable {X:Cx}
theorem pv (i:Nat) {x:Str}{pos:Pos} (hN:X.N[i]?=some x:=by rfl) (hv:Vis X.env.scope x:=by first | exact Or.inl rfl | exact Or.inr (Or.inl rfl) | exact Or.inr (Or.inr rfl)) (hd:(x==("__debug__":Str))=false:=by decide)
    (hcd:(x==("__classdict__":Str))=false:=by decide):PE X (.Name x pos) (tVar i):=zht hN hv hd hcd
end
def ze9 (H H':Hp):Prop:=∀ b o,H b=some o->H' b=some o
theorem ze9.refl (H:Hp):ze9 H H:=fun _ _ h=>h
theorem ze9.trans {H H1 H2:Hp} (a:ze9 H H1) (b:ze9 H1 H2):ze9 H H2:=fun c o h=>b c o (a c o h)
theorem ze9.free {H H':Hp} (e:ze9 H H') {l:Addr} (h:H' l=Option.none):H l=Option.none:=by
  cases q:H l with
  | none=>rfl
  | some o =>
    rw [e l o q] at h
    cases h
theorem ze9.seq {K:PySem.W.Frag}{H H':Hp}{a:Addr}{xs:List V} (e:ze9 H H') (h:SqL K H a xs):SqL K H' a xs:=by
  rcases h with (h | ⟨o,h⟩) | h
  · exact .inl (.inl (e _ _ h))
  · exact .inl (.inr ⟨o,e _ _ h⟩)
  · exact .inr h
end L2
namespace LD
open PySem
inductive D where
  | non | bl (b:Bool) | int (i:Int) | str (x:Str) | tup (ds:List D) | lst (ds:List D) | frz (ds:List D) | cell (k:Nat) | fn (f:Nat) | exc (c:Nat) (p:Option Int)
  deriving Inhabited
abbrev Mem:=List (List D)
abbrev Env:=List (Option D)
inductive Res (α:Type) where
  | ok (a:α) (M:Mem)
  | err (x:D) (M:Mem)
  | bad
def Res.bind {α β:Type} (r:Res α) (f:α->Mem->Res β):Res β:=match r with
  | .ok a M=>f a M
  | .err x M=>.err x M
  | .bad=>.bad
@[simp] theorem Res.bind_ok {α β:Type} (a:α) (M:Mem) (f:α->Mem->Res β):(Res.ok a M).bind f=f a M:=rfl
@[simp] theorem Res.bind_err {α β:Type} (x:D) (M:Mem) (f:α->Mem->Res β):(Res.err x M:Res α).bind f=.err x M:=rfl
@[simp] theorem Res.bind_bad {α β:Type} (f:α->Mem->Res β):(Res.bad:Res α).bind f=.bad:=rfl
inductive Bin where
  | add | sub | mul | fdiv | mod | pow
  deriving DecidableEq
inductive Cmp where
  | eq | ne | lt | le | gt | ge | isN | notN | isin | notin
  deriving DecidableEq
inductive Ty where
  | int | bool | str | tuple | list | own (c:Str)
  deriving DecidableEq
inductive Blt where
  | len | tuple | list (m:Bool) | listR (m:Bool) | all | sum | repr
  deriving DecidableEq
inductive Tgt where
  | one (i:Nat)
  | tup (l:List Nat)
def sz:Nat:=16777216
def zbh (m:Bool) (ds:List D) (M:Mem):Res D:=if ds.length≤sz then (if m then .ok (.cell M.length) (M++[ds]) else .ok (.lst ds) M) else .bad
def zh3 (ds:List D) (M:Mem):Res D:=if ds.length≤sz then .ok (.tup ds) M else .bad
def zbr (M:Mem):D->Option (List D)
  | .lst ds=>some ds
  | .tup ds=>some ds
  | .frz ds=>some ds
  | .cell k=>M[k]?
  | _=>none
def rdD (M:Mem):D->Option (List D)
  | .lst ds=>some ds
  | .frz ds=>some ds
  | .cell k=>M[k]?
  | _=>none
def zew (M:Mem):D->Option (List D)
  | .lst ds=>some ds
  | .cell k=>M[k]?
  | _=>none
def zao:Nat->D->Bool
  | _,.non=>true
  | _,.bl _=>true
  | _,.int _=>true
  | _,.str x=>x.cps.all (· < 0x110000)
  | n+1,.tup ds=>ds.all (zao n)
  | n+1,.lst ds=>ds.all (zao n)
  | 0,.tup _=>false
  | 0,.lst _=>false
  | _,.frz _=>false
  | _,.cell _=>false
  | _,.fn _=>false
  | _,.exc _ _=>false
mutual
def zba:D->D->Bool
  | .non,.non=>true
  | .bl a,.bl b=>a==b
  | .bl a,.int b=>(if a then 1 else 0)==b
  | .int a,.bl b=>a==(if b then 1 else 0)
  | .int a,.int b=>a==b
  | .str a,.str b=>a==b
  | .tup a,.tup b=>zgf a b
  | .lst a,.lst b=>zgf a b
  | _,_=>false
def zgf:List D->List D->Bool
  | [],[]=>true
  | a::r,b::t=>zba a b&&zgf r t
  | [],_::_=>false
  | _::_,[]=>false
end
def eqD (a b:D):Option Bool:=if zao 64 a&&zao 64 b then some (zba a b) else none
def view (M:Mem):D->D
  | .cell k => match M[k]? with
    | some ds=>.lst ds
    | none=>.cell k
  | .frz ds=>.lst ds
  | d=>d
def zct:Nat->Mem->D->D
  | 0,_,d=>d
  | n + 1, M, .cell k => match M[k]? with
    | some ds=>.lst (ds.map (zct n M))
    | none=>.cell k
  | n+1,M,.frz ds=>.lst (ds.map (zct n M))
  | n+1,M,.lst ds=>.lst (ds.map (zct n M))
  | n+1,M,.tup ds=>.tup (ds.map (zct n M))
  | _+1,_,d=>d
def eqM (M:Mem) (a b:D):Option Bool:=match eqD (view M a) (view M b) with
  | some r=>some r
  | none=>eqD (zct 64 M a) (zct 64 M b)
def zf4 (M:Mem):D->Option Bool
  | .non=>some false
  | .bl b=>some b
  | .int i=>some (i != 0)
  | .str x=>if x.cps.size≤sz then some (x.cps.size != 0) else none
  | .tup ds=>some (!ds.isEmpty)
  | .lst ds=>some (!ds.isEmpty)
  | .frz ds=>some (!ds.isEmpty)
  | .cell k=>(M[k]?).map fun ds=>!ds.isEmpty
  | .fn _=>none
  | .exc _ _=>none
def ixN (n:Nat) (i:Int):Option Nat:=if 0≤i then (if i < n then some i.toNat else none) else if -(n:Int)≤i then some (i+n).toNat else none
def zdc (m:Bool) (o:Bin) (a b:D) (M:Mem):Res D:=match o,a,b with
  | .add,.int i,.int j=>.ok (.int (i+j)) M
  | .add,.str x,.str y=>if x.cps.size+y.cps.size≤sz then .ok (.str ⟨x.cps++y.cps⟩) M else .bad
  | .add,.tup x,.tup y=>zh3 (x++y) M
  | .add, a, b => match zew M a, zew M b with
    | some x,some y=>zbh m (x++y) M
    | _,_=>.bad
  | .sub,.int i,.int j=>.ok (.int (i - j)) M
  | .mul,.int i,.int j=>if (-(2 ^ 64) < i /\ i < 2 ^ 64) \/ (-(2 ^ 64) < j /\ j < 2 ^ 64) then .ok (.int (i * j)) M else .bad
  | .mul,.tup x,.int j=>if x.length * j.toNat≤sz /\ -(2 ^ 63)≤j /\ j < 2 ^ 63 then .ok (.tup (List.replicate j.toNat x).flatten) M else .bad
  | .mul, a, .int j => match zew M a with
    | some x=>if x.length * j.toNat≤sz /\ -(2 ^ 63)≤j /\ j < 2 ^ 63 then zbh m (List.replicate j.toNat x).flatten M else .bad
    | none=>.bad
  | .fdiv,.int i,.int j=>if 0 < j /\ j < 1073741824 then .ok (.int (i / j)) M else .bad
  | .mod,.int i,.int j=>if 0 < j then .ok (.int (i % j)) M else .bad
  | .pow,.int i,.int j=>if 0≤j /\ j≤1000000 /\ i.natAbs < 2 ^ 64 then .ok (.int (i ^ j.toNat)) M else .bad
  | _,_,_=>.bad
def inL (x:D) (ds:List D):Option Bool:=if zao 64 x&&ds.all (zao 63) then some (ds.any fun y=>zba y x) else none
def zep (x y:Str):Bool:=!(Builtin.Str.occurrences y x 0 y.length 1).isEmpty
def zgq:D->Bool
  | .non=>true
  | _=>false
def zcv (o:Cmp) (a b:D) (M:Mem):Option Bool:=match o,a,b with
  | .eq,a,b=>eqM M a b
  | .ne,a,b=>(eqM M a b).map (!·)
  | .lt,.int i,.int j=>some (decide (i < j))
  | .le,.int i,.int j=>some (decide (i≤j))
  | .gt,.int i,.int j=>some (decide (j < i))
  | .ge,.int i,.int j=>some (decide (j≤i))
  | .isN,a,.non=>some (zgq a)
  | .notN,a,.non=>some (!zgq a)
  | .isin,.str x,.str y=>some (zep x y)
  | .notin,.str x,.str y=>some (!zep x y)
  | .isin,a,b=>(zbr M b).bind (inL (view M a))
  | .notin,a,b=>((zbr M b).bind (inL (view M a))).map (!·)
  | _,_,_=>none
def zf7 (a i:D) (M:Mem):Option D:=match a,i with
  | .str x,.int i=>if x.cps.size≤sz then (ixN x.cps.size i).bind fun j=>(x.cps[j]?).map fun c=>.str ⟨#[c]⟩ else none
  | a,.int i=>(zbr M a).bind fun ds=>(ixN ds.length i).bind fun j=>ds[j]?
  | _,_=>none
def sIx (n d:Nat):D->Option Nat
  | .non=>some d
  | .int v=>some (if v < 0 then (v+(n:Int)).toNat else min v.toNat n)
  | _=>none
def zc5:Bool->D->Bool
  | true,.int _=>true
  | false,.non=>true
  | _,_=>false
def cut {α:Type} (xs:List α) (lo hi:Nat):List α:=(xs.drop lo).take (hi - lo)
def slcD (m:Bool) (a lo hi:D) (M:Mem):Res D:=match a with
  | .tup xs => match sIx xs.length 0 lo, sIx xs.length xs.length hi with
    | some l,some h=>.ok (.tup (cut xs l h)) M
    | _,_=>.bad
  | a => match rdD M a with
    | some xs => match sIx xs.length 0 lo, sIx xs.length xs.length hi with
      | some l,some h=>zbh m (cut xs l h) M
      | _,_=>.bad
    | none=>.bad
def zfu (t:Ty):D->Option Bool
  | .non=>some false
  | .bl _=>some (t==.bool||t==.int)
  | .int _=>some (t==.int)
  | .str _=>some (t==.str)
  | .tup _=>some (t==.tuple)
  | .lst _=>some (t==.list)
  | .frz _=>some (t==.list)
  | .cell _=>some (t==.list)
  | .fn _=>none
  | .exc _ _=>none
def boolsOf:List D->Option (List Bool)
  | []=>some []
  | .bl b::r=>(boolsOf r).map (b::·)
  | _=>none
def intsOf:List D->Option (List Int)
  | []=>some []
  | .int b::r=>(intsOf r).map (b::·)
  | _=>none
def zdg (f:Blt) (ds:List D) (M:Mem):Res D:=match f,ds with
  | .len,[.str x]=>if x.cps.size≤sz then .ok (.int x.cps.size) M else .bad
  | .len, [d] => match zbr M d with
    | some xs=>.ok (.int xs.length) M
    | none=>.bad
  | .tuple,[.tup xs]=>.ok (.tup xs) M
  | .tuple, [d] => match rdD M d with
    | some xs=>.ok (.tup xs) M
    | none=>.bad
  | .list m, [d] => match zbr M d with
    | some xs=>zbh m xs M
    | none=>.bad
  | .listR m,[.int n]=>if n < 2 ^ 20 then zbh m ((List.range n.toNat).map fun (k:Nat)=>D.int (k:Int)) M else .bad
  | .all, [d] => match rdD M d with
    | some xs => match boolsOf xs with
      | some bs=>.ok (.bl (bs.all id)) M
      | none=>.bad
    | none=>.bad
  | .sum, [d] => match rdD M d with
    | some xs => match intsOf xs with
      | some is=>.ok (.int is.sum) M
      | none=>.bad
    | none=>.bad
  | _,_=>.bad
def zfd:List Nat->List D->Env->Option Env
  | [],[],ρ=>some ρ
  | i::l,d::ds,ρ=>zfd l ds (ρ.set i (some d))
  | _,_,_=>none
def zcj (t:Tgt) (d:D) (ρ:Env):Option Env:=match t,d with
  | .one i,d=>some (ρ.set i (some d))
  | .tup l,.tup ds=>zfd l ds ρ
  | .tup _,_=>none
abbrev Walk:=Mem->Option (List D)
def zdb:Nat->List D->List D
  | _,[]=>[]
  | k,d::r=>.tup [.int k,d]::zdb (k+1) r
def zef:List D->List D->List D
  | a::r,b::t=>.tup [a,b]::zef r t
  | _,_=>[]
def zip3L:List D->List D->List D->List D
  | a::r,b::t,c::q=>.tup [a,b,c]::zip3L r t q
  | _,_,_=>[]
def eachR {α:Type} (f:α->D->Mem->Res α):List D->α->Mem->Res α
  | [],a,M=>.ok a M
  | d::r,a,M=>(f a d M).bind (eachR f r)
def zda {α:Type} (f:α->D->Mem->Res α) (w:Walk):Nat->Nat->α->Mem->Res α
  | 0,_,_,_=>.bad
  | n + 1, i, a, M => match w M with
    | none=>.bad
    | some ds => match ds[i]? with
      | none=>.ok a M
      | some d=>(f a d M).bind (zda f w n (i+1))
def zdh {α:Type} (f:α->D->Mem->Res α) (w:Walk) (a:α) (M:Mem):Res α:=zda f w (((w M).getD []).length+1) 0 a M
def ofO {α:Type} (M:Mem):Option α->Res α
  | some a=>.ok a M
  | none=>.bad
@[simp] theorem zqr {α:Type} (M:Mem) (a:α):ofO M (some a)=.ok a M:=rfl
@[simp] theorem ofO_none {α:Type} (M:Mem):(ofO M none:Res α)=.bad:=rfl
inductive Fl where
  | next (ρ:Env)
  | ret (d:D)
  | exc (x:D) (ρ:Env)
end LD
namespace LD
open PySem PySem.Spec PyProof.Rows L2
structure Mu where
  pub:Nat->Option Addr
  priv:List Addr
def Mu.Mt (μ:Mu) (a:Addr):Prop:=(∃ k,μ.pub k=some a) \/ a∈μ.priv
abbrev Fa:=Nat->Option Addr
def KL (K:PySem.W.Frag) (a:Addr) (xs:List V):Prop:=
  ∃ (o:Obj) (its:Array Value) (n:Nat),K.lookup a=some o /\ o.cls=.type "list" /\ o.dict=none /\ o.data=.seq its n /\ its.size≤sizeLine /\ Vals xs its.toList
def XAt (C:Addr) (dx:Option Addr) (a:Addr) (h:Heap):Prop:=∃ o vs,h.get? a=some o /\ o.cls=.ref C /\ o.dict=dx /\ o.data=.fields vs /\ 1 < vs.size
def zde (c:Nat):Str:=if c=1 then "number" else "place"
def XNum (H:Hp) (c:Nat) (dx:Option Addr):Option Int->Prop
  | none=>dx=none
  | some i=>∃ d,dx=some d /\ H d=some (.xd [(zde c,.int i)])
def cid (c:Nat):Nat:=1000+c
section
variable (fa:Fa) (K:PySem.W.Frag) (μ:Mu) (H:Hp)
mutual
def Rep:D->V->Prop
  | .non,v=>v=.non
  | .bl b,v=>v=.bl b
  | .int i,v=>v=.int i
  | .str x,v=>v=.str x
  | .tup ds,v=>∃ a vs,v=.ref a /\ SqT K H a vs /\ zat ds vs
  | .lst ds,v=>∃ a vs,v=.ref a /\ (H a=some (.lst vs) /\ ¬ μ.Mt a) /\ zat ds vs
  | .frz ds,v=>∃ a vs,v=.ref a /\ ((∃ ob,H a=some (.frz ob (.lst vs))) \/ KL K a vs) /\ zat ds vs
  | .cell k,v=>∃ a,v=.ref a /\ μ.pub k=some a
  | .fn f,v=>∃ a,v=.ref a /\ fa f=some a
  | .exc c p,v=>∃ a C dx,v=.ref a /\ fa (cid c)=some C /\ H a=some (.ext (XAt C dx a)) /\ XNum H c dx p
def zat:List D->List V->Prop
  | [],vs=>vs=[]
  | d::ds,vs=>∃ v r,vs=v::r /\ Rep d v /\ zat ds r
end
end
def IsX (o:HO):Prop:=(∃ φ,o=.ext φ) \/ ∃ fs,o=.xd fs
structure ExtW (μ:Mu) (H:Hp) (μ':Mu) (H':Hp):Prop where
  mu:∀ k a,μ.pub k=some a->μ'.pub k=some a
  tups:∀ a vs,Rd H a (.tup vs)->Rd H' a (.tup vs)
  lsts:∀ a vs,H a=some (.lst vs)->¬ μ.Mt a->H' a=some (.lst vs) /\ ¬ μ'.Mt a
  frzs:∀ a ob u,H a=some (.frz ob u)->H' a=some (.frz ob u)
  exts:∀ a o,IsX o->H a=some o->H' a=some o
structure Ext (μ:Mu) (H:Hp) (μ':Mu) (H':Hp):Prop extends ExtW μ H μ' H' where
  pr:μ'.priv=μ.priv
  pk:∀ a∈μ.priv,H' a=H a
theorem ExtW.refl {μ:Mu}{H:Hp}:ExtW μ H μ H:=⟨fun _ _ h=>h,fun _ _ h=>h,fun _ _ h n=>⟨h,n⟩,fun _ _ _ h=>h,fun _ _ _ h=>h⟩
theorem ExtW.trans {μ μ1 μ2:Mu}{H H1 H2:Hp} (a:ExtW μ H μ1 H1) (b:ExtW μ1 H1 μ2 H2):ExtW μ H μ2 H2:=
  ⟨fun k x h=>b.mu k x (a.mu k x h),fun x vs h=>b.tups x vs (a.tups x vs h),fun x vs h n=>b.lsts x vs (a.lsts x vs h n).1 (a.lsts x vs h n).2,fun x ob u h=>b.frzs x ob u (a.frzs x ob u h),fun x o i h=>b.exts x o i (a.exts x o i h)⟩
theorem Ext.refl {μ:Mu}{H:Hp}:Ext μ H μ H:=⟨.refl,rfl,fun _ _=>rfl⟩
theorem Ext.trans {μ μ1 μ2:Mu}{H H1 H2:Hp} (a:Ext μ H μ1 H1) (b:Ext μ1 H1 μ2 H2):Ext μ H μ2 H2:=
  ⟨a.toExtW.trans b.toExtW,b.pr.trans a.pr,fun x hx=>(b.pk x (by rw [a.pr];exact hx)).trans (a.pk x hx)⟩
section
variable {fa:Fa}{K:PySem.W.Frag}{μ μ':Mu}{H H':Hp}
theorem ExtW.sqT {a:Addr}{vs:List V} (x:ExtW μ H μ' H') (h:SqT K H a vs):SqT K H' a vs:=h.elim (fun z=>.inl (x.tups a vs z)) .inr
mutual
theorem Rep.extW (x:ExtW μ H μ' H'):∀ {d:D}{v:V},Rep fa K μ H d v->Rep fa K μ' H' d v
  | .non,v,h=>h
  | .bl b,v,h=>h
  | .int i,v,h=>h
  | .str y,v,h=>h
  | .tup ds, v, h => by
    obtain ⟨a,vs,e,s,r⟩:=h
    exact ⟨a,vs,e,x.sqT s,zat.extW x r⟩
  | .lst ds, v, h => by
    obtain ⟨a,vs,e,s,r⟩:=h
    exact ⟨a,vs,e,x.lsts a vs s.1 s.2,zat.extW x r⟩
  | .frz ds, v, h => by
    obtain ⟨a,vs,e,s,r⟩:=h
    exact ⟨a,vs,e,s.elim (fun ⟨ob,z⟩=>.inl ⟨ob,x.frzs a ob _ z⟩) .inr,zat.extW x r⟩
  | .cell k, v, h => by
    obtain ⟨a,e,m⟩:=h
    exact ⟨a,e,x.mu k a m⟩
  | .fn f,v,h=>h
  | .exc c p, v, h => by
    obtain ⟨a,C,dx,e,f,g,n⟩:=h
    refine ⟨a,C,dx,e,f,x.exts _ _ (.inl ⟨_,rfl⟩) g,?_⟩
    cases p with
    | none=>exact n
    | some i=>exact let ⟨d,h1,h2⟩:=n;⟨d,h1,x.exts _ _ (.inr ⟨_,rfl⟩) h2⟩
theorem zat.extW (x:ExtW μ H μ' H'):∀ {ds:List D}{vs:List V},zat fa K μ H ds vs->zat fa K μ' H' ds vs
  | [],vs,h=>h
  | d :: ds, vs, h => by
    obtain ⟨v,r,e,p,q⟩:=h
    exact ⟨v,r,e,Rep.extW x p,zat.extW x q⟩
end
theorem Rep.ext (x:Ext μ H μ' H') {d:D}{v:V} (h:Rep fa K μ H d v):Rep fa K μ' H' d v:=Rep.extW x.toExtW h
theorem zat.ext (x:Ext μ H μ' H') {d:List D}{v:List V} (h:zat fa K μ H d v):zat fa K μ' H' d v:=zat.extW x.toExtW h
theorem zat.length:∀ {ds:List D}{vs:List V},zat fa K μ H ds vs->vs.length=ds.length
  | [], vs, h => by
    have h:vs=[]:=h
    subst h;rfl
  | d :: ds, vs, h => by
    obtain ⟨v,r,e,p,q⟩:=h
    subst e
    simp [zat.length q]
theorem zat.get:∀ {ds:List D}{vs:List V}{i:Nat}{d:D},zat fa K μ H ds vs->ds[i]?=some d->∃ v,vs[i]?=some v /\ Rep fa K μ H d v
  | [],_,_,_,_,e=>by simp at e
  | d :: ds, vs, 0, d', h, e => by
    obtain ⟨v,r,rfl,p,q⟩:=h
    simp at e;subst e
    exact ⟨v,rfl,p⟩
  | d :: ds, vs, i + 1, d', h, e => by
    obtain ⟨v,r,rfl,p,q⟩:=h
    obtain ⟨u,h1,h2⟩:=zat.get (i:=i) q (by simpa using e)
    exact ⟨u,by simpa using h1,h2⟩
theorem zat.append:∀ {ds es:List D}{vs ws:List V},zat fa K μ H ds vs->zat fa K μ H es ws->zat fa K μ H (ds++es) (vs++ws)
  | [], _, vs, _, h, g => by
    have h:vs=[]:=h
    subst h;exact g
  | d :: ds, es, vs, ws, h, g => by
    obtain ⟨v,r,rfl,p,q⟩:=h
    exact ⟨v,r++ws,rfl,p,zat.append q g⟩
theorem zat.one {d:D}{v:V} (h:Rep fa K μ H d v):zat fa K μ H [d] [v]:=⟨v,[],rfl,h,rfl⟩
theorem zat.drop:∀ (n:Nat) {ds:List D}{vs:List V},zat fa K μ H ds vs->zat fa K μ H (ds.drop n) (vs.drop n)
  | 0,_,_,h=>h
  | n + 1, [], vs, h => by
    have h:vs=[]:=h
    subst h;exact rfl
  | n + 1, d :: ds, vs, h => by
    obtain ⟨v,r,rfl,p,q⟩:=h
    exact zat.drop n q
theorem zat.take:∀ (n:Nat) {ds:List D}{vs:List V},zat fa K μ H ds vs->zat fa K μ H (ds.take n) (vs.take n)
  | 0,_,_,h=>rfl
  | n + 1, [], vs, h => by
    have h:vs=[]:=h
    subst h;exact rfl
  | n + 1, d :: ds, vs, h => by
    obtain ⟨v,r,rfl,p,q⟩:=h
    exact ⟨v,r.take n,rfl,p,zat.take n q⟩
theorem zat.set:∀ (n:Nat) {ds:List D}{vs:List V}{d:D}{v:V},zat fa K μ H ds vs->Rep fa K μ H d v->zat fa K μ H (ds.set n d) (vs.set n v)
  | _, [], vs, _, _, h, _ => by
    have h:vs=[]:=h
    subst h;exact rfl
  | 0, d :: ds, vs, _, v', h, g => by
    obtain ⟨v,r,rfl,p,q⟩:=h
    exact ⟨v',r,rfl,g,q⟩
  | n + 1, d :: ds, vs, _, v', h, g => by
    obtain ⟨v,r,rfl,p,q⟩:=h
    exact ⟨v,r.set n v',rfl,p,zat.set n q g⟩
theorem zat.reverse:∀ {ds:List D}{vs:List V},zat fa K μ H ds vs->zat fa K μ H ds.reverse vs.reverse
  | [], vs, h => by
    have h:vs=[]:=h
    subst h;exact rfl
  | d :: ds, vs, h => by
    obtain ⟨v,r,rfl,p,q⟩:=h
    rw [List.reverse_cons,List.reverse_cons]
    exact zat.append (zat.reverse q) (.one p)
theorem zat.rep:∀ (n:Nat) {ds:List D}{vs:List V},zat fa K μ H ds vs->zat fa K μ H (List.replicate n ds).flatten (List.replicate n vs).flatten
  | 0,_,_,_=>rfl
  | n + 1, ds, vs, h => by
    rw [List.replicate_succ,List.replicate_succ,List.flatten_cons,List.flatten_cons]
    exact h.append (zat.rep n h)
theorem zat.ints:∀ (ns:List Int),zat fa K μ H (ns.map D.int) (ns.map V.int)
  | []=>rfl
  | n::ns=>⟨.int n,ns.map V.int,rfl,rfl,zat.ints ns⟩
end
structure RelM (fa:Fa) (K:PySem.W.Frag) (μ:Mu) (H:Hp) (M:Mem):Prop where
  at':∀ (k:Nat) (ds:List D),M[k]?=some ds->∃ a vs,μ.pub k=some a /\ H a=some (.lst vs) /\ zat fa K μ H ds vs
  out:∀ (k:Nat),M.length≤k->μ.pub k=none
  inj:∀ j k a,μ.pub j=some a->μ.pub k=some a->j=k
  pv:∀ a∈μ.priv,(∃ vs,H a=some (.lst vs)) /\ ∀ k,μ.pub k≠some a
structure za4 (fa:Fa) (K:PySem.W.Frag) (μ:Mu) (H:Hp) (σ:L2.St) (ρ:Env):Prop where
  len:σ.length=ρ.length
  at':∀ (i:Nat) (d:D),ρ[i]?=some (some d)->∃ v,σ[i]?=some (some v) /\ Rep fa K μ H d v
section
variable {fa:Fa}{K:PySem.W.Frag}{μ μ':Mu}{H H':Hp}{σ:L2.St}{ρ:Env}{M:Mem}
theorem za4.ext (h:za4 fa K μ H σ ρ) (x:Ext μ H μ' H'):za4 fa K μ' H' σ ρ:=
  ⟨h.len,fun i d e=>let ⟨v,h1,h2⟩:=h.at' i d e;⟨v,h1,h2.ext x⟩⟩
theorem za4.set (h:za4 fa K μ H σ ρ) {i:Nat}{d:D}{v:V} (r:Rep fa K μ H d v):za4 fa K μ H (σ.set i (some v)) (ρ.set i (some d)):=by
  refine ⟨by simp [h.len],fun j d' e=>?_⟩
  by_cases hj:j=i
  · subst hj
    have hl:j < ρ.length:=by
      have:=(List.getElem?_eq_some_iff.mp e).1
      simpa using this
    rw [List.getElem?_set_self hl] at e
    cases e
    exact ⟨v,List.getElem?_set_self (by rw [h.len];exact hl),r⟩
  · rw [List.getElem?_set_ne (Ne.symm hj)] at e
    obtain ⟨u,h1,h2⟩:=h.at' j d' e
    exact ⟨u,by rw [List.getElem?_set_ne (Ne.symm hj)];exact h1,h2⟩
theorem za4.extW (h:za4 fa K μ H σ ρ) (x:ExtW μ H μ' H'):za4 fa K μ' H' σ ρ:=
  ⟨h.len,fun i d e=>let ⟨v,h1,h2⟩:=h.at' i d e;⟨v,h1,h2.extW x⟩⟩
theorem RelM.mu_lt (h:RelM fa K μ H M) {k:Nat}{a:Addr} (e:μ.pub k=some a):∃ ds vs,M[k]?=some ds /\ H a=some (.lst vs) /\ zat fa K μ H ds vs:=by
  by_cases hk:k < M.length
  · obtain ⟨a',vs,h1,h2,h3⟩:=h.at' k M[k] (by simp [hk])
    rw [e] at h1;cases h1
    exact ⟨_,vs,by simp [hk],h2,h3⟩
  · rw [h.out k (by omega)] at e;cases e
theorem RelM.fresh (h:RelM fa K μ H M) {p:Addr} (hp:H p=none):¬ μ.Mt p:=fun e=>by
  rcases e with ⟨k,e⟩ | e
  · obtain ⟨ds,vs,_,h2,_⟩:=h.mu_lt e
    rw [hp] at h2;cases h2
  · obtain ⟨⟨vs,h2⟩,_⟩:=h.pv p e
    rw [hp] at h2;cases h2
theorem RelM.pne (h:RelM fa K μ H M) {p a:Addr} (hp:H p=none) (ha:a∈μ.priv):a≠p:=fun e=>by
  obtain ⟨⟨vs,h2⟩,_⟩:=h.pv a ha
  rw [e,hp] at h2;cases h2
theorem Ext.alloc {p:Addr}{o:HO} (h:RelM fa K μ H M) (hp:H p=none):Ext μ H μ (upd H p o):=by
  have rd:∀ a u,Rd H a u->Rd (upd H p o) a u:=fun a u h=>by
    rcases h with h | ⟨ob,h⟩
    · exact .inl (by rw [zar (zay h hp)];exact h)
    · exact .inr ⟨ob,by rw [zar (zay h hp)];exact h⟩
  exact ⟨⟨fun _ _ h=>h,fun a vs h=>rd a _ h,fun a vs h n=>⟨by rw [zar (zay h hp)];exact h,n⟩,fun a ob u h=>by rw [zar (zay h hp)];exact h,fun a o _ h=>by rw [zar (zay h hp)];exact h⟩,rfl,fun a ha=>by rw [zar (h.pne hp ha)]⟩
theorem RelM.alloc (h:RelM fa K μ H M) {p:Addr}{o:HO} (hp:H p=none):RelM fa K μ (upd H p o) M:=
  ⟨fun k ds e=>let ⟨a,vs,h1,h2,h3⟩:=h.at' k ds e;⟨a,vs,h1,by rw [zar (zay h2 hp)];exact h2,h3.ext (Ext.alloc h hp)⟩,h.out,h.inj,fun a ha=>⟨let ⟨⟨vs,e⟩,_⟩:=h.pv a ha;⟨vs,by rw [zar (h.pne hp ha)];exact e⟩,(h.pv a ha).2⟩⟩
def zdr (μ:Mu) (n:Nat) (p:Addr):Mu:=⟨fun k=>if k=n then some p else μ.pub k,μ.priv⟩
theorem Ext.cell {p:Addr}{o:HO} (h:RelM fa K μ H M) (hp:H p=none):Ext μ H (zdr μ M.length p) (upd H p o):=by
  have rd:∀ a u,Rd H a u->Rd (upd H p o) a u:=fun a u h=>by
    rcases h with h | ⟨ob,h⟩
    · exact .inl (by rw [zar (zay h hp)];exact h)
    · exact .inr ⟨ob,by rw [zar (zay h hp)];exact h⟩
  refine ⟨⟨fun k a e=>?_,fun a vs g=>rd a _ g,fun a vs g n=>⟨by rw [zar (zay g hp)];exact g,fun e=>?_⟩,fun a ob u h=>by rw [zar (zay h hp)];exact h,fun a o _ h=>by rw [zar (zay h hp)];exact h⟩,rfl,fun a ha=>by rw [zar (h.pne hp ha)]⟩
  · show (if k=M.length then some p else μ.pub k)=some a
    split
    · next q=>rw [q,h.out _ (Nat.le_refl _)] at e;cases e
    · exact e
  · rcases e with ⟨k,e⟩ | e
    · have e:(if k=M.length then some p else μ.pub k)=some a:=e
      split at e
      · cases e;exact zay g hp rfl
      · exact n (.inl ⟨k,e⟩)
    · exact n (.inr e)
theorem RelM.cell (h:RelM fa K μ H M) {p:Addr}{ds:List D}{vs:List V} (hp:H p=none) (r:zat fa K μ H ds vs) :
    RelM fa K (zdr μ M.length p) (upd H p (.lst vs)) (M++[ds]):=by
  have x:Ext μ H (zdr μ M.length p) (upd H p (.lst vs)):=Ext.cell h hp
  have np:=h.fresh hp
  refine ⟨fun k ds' e=>?_,fun k hk=>?_,fun j k a h1 h2=>?_,fun a ha=>?_⟩
  · by_cases hk:k < M.length
    · rw [List.getElem?_append_left hk] at e
      obtain ⟨a,ws,h1,h2,h3⟩:=h.at' k ds' e
      exact ⟨a,ws,x.mu k a h1,by rw [zar (zay h2 hp)];exact h2,h3.ext x⟩
    · have hk':k=M.length:=by
        have:=(List.getElem?_eq_some_iff.mp e).1
        simp at this;omega
      subst hk'
      rw [List.getElem?_append_right (Nat.le_refl _)] at e
      simp at e
      subst e
      exact ⟨p,vs,by simp [zdr],zbg,r.ext x⟩
  · simp at hk
    show (if k=M.length then some p else μ.pub k)=none
    rw [if_neg (by omega)]
    exact h.out k (by omega)
  · have h1:(if j=M.length then some p else μ.pub j)=some a:=h1
    have h2:(if k=M.length then some p else μ.pub k)=some a:=h2
    split at h1<;>split at h2
    · omega
    · cases h1;exact absurd (.inl ⟨k,h2⟩) np
    · cases h2;exact absurd (.inl ⟨j,h1⟩) np
    · exact h.inj j k a h1 h2
  · obtain ⟨⟨ws,e⟩,n⟩:=h.pv a ha
    refine ⟨⟨ws,by rw [zar (h.pne hp ha)];exact e⟩,fun k e2=>?_⟩
    have e2:(if k=M.length then some p else μ.pub k)=some a:=e2
    split at e2
    · cases e2;exact h.pne hp ha rfl
    · exact n k e2
theorem ExtW.write {a:Addr}{vs ws:List V} (h2:H a=some (.lst vs)) (e:μ.Mt a):ExtW μ H μ (upd H a (.lst ws)):=by
  have ne:∀ b u,Rd H b u->(∀ xs,u≠.lst xs)->b≠a:=fun b u g nu q=>by
    subst q
    rcases g with g | ⟨ob,g⟩
    · rw [h2] at g;cases g;exact nu _ rfl
    · rw [h2] at g;cases g
  have rd:∀ b u,b≠a->Rd H b u->Rd (upd H a (.lst ws)) b u:=fun b u nb g=>by
    rcases g with g | ⟨ob,g⟩
    · exact .inl (by rw [zar nb];exact g)
    · exact .inr ⟨ob,by rw [zar nb];exact g⟩
  exact ⟨fun _ _ q=>q,fun b us g=>rd b _ (ne b _ g (fun xs q=>by cases q)) g,fun b us g n=>⟨by rw [zar (fun q=>n (by rw [q];exact e))];exact g,n⟩,fun b ob u g=>by rw [zar (fun q=>by rw [q,h2] at g;cases g)];exact g,fun b o i g=>by rw [zar (fun q=>by rw [q,h2] at g;cases g;rcases i with ⟨_,i⟩ | ⟨_,i⟩<;>cases i)];exact g⟩
theorem Ext.write {k:Nat}{a:Addr}{vs ws:List V} (h:RelM fa K μ H M) (e:μ.pub k=some a):Ext μ H μ (upd H a (.lst ws)):=by
  obtain ⟨ds,vs,_,h2,_⟩:=h.mu_lt e
  exact ⟨ExtW.write h2 (.inl ⟨k,e⟩),rfl,fun b hb=>by rw [zar (fun q=>(h.pv b hb).2 k (by rw [q];exact e))]⟩
theorem RelM.write (h:RelM fa K μ H M) {k:Nat}{a:Addr}{ds:List D}{ws:List V} (e:μ.pub k=some a) (r:zat fa K μ H ds ws):RelM fa K μ (upd H a (.lst ws)) (M.set k ds):=by
  have x:Ext μ H μ (upd H a (.lst ws)):=Ext.write (vs:=ws) h e
  refine ⟨fun j es q=>?_,fun j hj=>h.out j (by simpa using hj),h.inj,fun b hb=>⟨let ⟨⟨vs,g⟩,_⟩:=h.pv b hb;⟨vs,by rw [x.pk b hb];exact g⟩,(h.pv b hb).2⟩⟩
  by_cases hj:j=k
  · subst hj
    have hl:j < M.length:=by have:=(List.getElem?_eq_some_iff.mp q).1;simpa using this
    rw [List.getElem?_set_self hl] at q
    cases q
    exact ⟨a,ws,e,zbg,r.ext x⟩
  · rw [List.getElem?_set_ne (Ne.symm hj)] at q
    obtain ⟨b,vs,h1,h2,h3⟩:=h.at' j es q
    have nb:b≠a:=fun z=>hj (h.inj j k a (z ▸ h1) e)
    exact ⟨b,vs,h1,by rw [zar nb];exact h2,h3.ext x⟩
end
def okE {α:Type} (r:Res α) (k:α->Mem->Prop):Prop:=match r with
  | .ok a M=>k a M
  | _=>False
theorem za5 {α β:Type}{r:Res α}{f:α->Mem->Res β}{k:β->Mem->Prop} (h:okE (r.bind f) k):∃ a M,r=.ok a M /\ okE (f a M) k:=by
  cases r with
  | ok a M=>exact ⟨a,M,rfl,h⟩
  | err=>exact h.elim
  | bad=>exact h.elim
theorem zis {α:Type}{M:Mem}{o:Option α}{k:α->Mem->Prop} (h:okE (ofO M o) k):∃ a,o=some a /\ k a M:=by
  cases o with
  | none=>exact h.elim
  | some a=>exact ⟨a,rfl,h⟩
theorem zbv {α:Type}{r:Res α}{k k':α->Mem->Prop} (h:okE r k) (m:∀ a M,k a M->k' a M):okE r k':=by
  cases r with
  | ok a M=>exact m a M h
  | err=>exact h
  | bad=>exact h
section
variable (fa:Fa) (K:PySem.W.Frag)
def zbb (μ:Mu) (H:Hp) (Q:VK) (d:D) (M':Mem):Prop:=∀ v H' μ',Ext μ H μ' H'->RelM fa K μ' H' M'->Rep fa K μ' H' d v->Q v H'
def tE (g:Env->Mem->Res D):TE:=fun σ H Q=>∃ μ ρ M,za4 fa K μ H σ ρ /\ RelM fa K μ H M /\ okE (g ρ M) (zbb fa K μ H Q)
def tT (g:Env->Mem->Res Bool):TT:=fun σ H Q=>∃ μ ρ M,za4 fa K μ H σ ρ /\ RelM fa K μ H M /\ okE (g ρ M) fun b M'=>∀ H' μ',Ext μ H μ' H'->RelM fa K μ' H' M'->Q b H'
def tA (g:Env->Mem->Res (List D)):TA:=fun σ H Q=>∃ μ ρ M,za4 fa K μ H σ ρ /\ RelM fa K μ H M /\ okE (g ρ M) fun ds M'=>∀ vs H' μ',Ext μ H μ' H'->RelM fa K μ' H' M'->zat fa K μ' H' ds vs->Q vs H'
end
def Fly (New:Addr->Prop) (C:Addr) (dx:Option Addr) (a:Addr) (h:Heap) (H:Hp):Prop:=New a /\ H a=none /\ ∃ o vs,h.get? a=some o /\ o.cls=.ref C /\ o.dict=dx /\ o.data=.fields vs /\
  (vs[1]?=some .none \/ ∃ T oT ts,vs[1]?=some (.ref T) /\ T≠a /\ New T /\ H T=none /\ h.get? T=some oT /\ oT.data=.fields ts /\ ts[3]?=some .none)
def NewX (X:Cx) (b:Addr):Prop:=X.s₀.heap.get? b=none /\ ∀ p∈X.pn,p.1≠b
def XW (fa:Fa) (X:Cx) (μ:Mu) (H:Hp) (x:D) (ρ:Env) (M:Mem):Prop:=∀ pins σ' H' μ' s' a C dx c p,Inv X pins σ' H' s'->Ext μ H μ' H'->za4 fa X.K μ' H' σ' ρ->RelM fa X.K μ' H' M->x=.exc c p->fa (cid c)=some C->XNum H' c dx p->Fly (NewX X) C dx a s'.heap H'->X.xe (.ref a) s'
def FlP (fa:Fa) (X:Cx) (μ:Mu) (H:Hp) (D:Ends):Fl->Mem->Prop
  | .next ρ',M'=>∀ σ' H' μ',Ext μ H μ' H'->za4 fa X.K μ' H' σ' ρ'->RelM fa X.K μ' H' M'->D.nx σ' H'
  | .ret d,M'=>zbb fa X.K μ H D.rt d M'
  | .exc x ρ',M'=>XW fa X μ H x ρ' M'
def tF (fa:Fa) (X:Cx) (g:Env->Mem->Res Fl):TS:=fun D σ H=>∃ μ ρ M,za4 fa X.K μ H σ ρ /\ RelM fa X.K μ H M /\ okE (g ρ M) (FlP fa X μ H D)
theorem XW.ext {fa:Fa}{X:Cx}{μ μ':Mu}{H H':Hp}{x:D}{ρ:Env}{M:Mem} (h:XW fa X μ H x ρ M) (y:Ext μ H μ' H'):XW fa X μ' H' x ρ M:=fun pins σ1 H1 μ1 s1 a C dx c p I e=>h pins σ1 H1 μ1 s1 a C dx c p I (y.trans e)
section
variable {fa:Fa}{K:PySem.W.Frag}{μ μ':Mu}{H H':Hp}{Q:VK}
theorem zbb.ext {d:D}{M:Mem} (h:zbb fa K μ H Q d M) (x:Ext μ H μ' H'):zbb fa K μ' H' Q d M:=fun v H'' μ'' y m r=>h v H'' μ'' (x.trans y) m r
theorem okW {r:Res D} (h:okE r (zbb fa K μ H Q)) (x:Ext μ H μ' H'):okE r (zbb fa K μ' H' Q):=zbv h fun _ _ w=>w.ext x
end
theorem zcb {X:Cx}{e:PySem.Expr}{t t':TE} (h:PE X e t) (i:∀ σ H Q,t' σ H Q->t σ H Q):PE X e t':=fun pins s σ H Q I q=>h pins s σ H Q I (i σ H Q q)
theorem zlk {X:Cx}{e:PySem.Expr}{t t':TT} (h:PT X e t) (i:∀ σ H Q,t' σ H Q->t σ H Q):PT X e t':=fun pins s σ H Q I q=>h pins s σ H Q I (i σ H Q q)
theorem pw_imp {X:Cx}{e:PySem.Expr}{t t':TT} (h:PW X e t) (i:∀ σ H Q,t' σ H Q->t σ H Q):PW X e t':=fun w pins s σ H Q I q=>h w pins s σ H Q I (i σ H Q q)
theorem zo6 {X:Cx}{e:List PySem.Expr}{t t':TA} (h:PA X e t) (i:∀ σ H Q,t' σ H Q->t σ H Q):PA X e t':=fun pos pins s σ H Q I q=>h pos pins s σ H Q I (i σ H Q q)
theorem zff {X:Cx}{e:PySem.Stmt}{t t':TS} (h:PS X e t) (i:∀ D σ H,t' D σ H->t D σ H):PS X e t':=fun pins s σ H D I q=>h pins s σ H D I (i D σ H q)
theorem zmt {X:Cx}{e:List PySem.Stmt}{t t':TS} (h:PSs X e t) (i:∀ D σ H,t' D σ H->t D σ H):PSs X e t':=fun pins s σ H D I q=>h pins s σ H D I (i D σ H q)
section
variable {fa:Fa}{K:PySem.W.Frag}{μ:Mu}{H:Hp}{σ:L2.St}{ρ:Env}{M:Mem}
theorem t1 {g:Env->Mem->Res D}{β:Type}{f:D->Mem->Res β}{P:β->Mem->Prop}{R:V->Hp->Prop} (hE:za4 fa K μ H σ ρ) (hM:RelM fa K μ H M) (h:okE ((g ρ M).bind f) P)
    (k:∀ x M1 v H1 μ1,Ext μ H μ1 H1->za4 fa K μ1 H1 σ ρ->RelM fa K μ1 H1 M1->Rep fa K μ1 H1 x v->okE (f x M1) P->R v H1):tE fa K g σ H R:=by
  obtain ⟨x,M1,e,q⟩:=za5 h
  refine ⟨μ,ρ,M,hE,hM,?_⟩
  rw [e]
  exact fun v H1 μ1 x1 m1 r1=>k x M1 v H1 μ1 x1 (hE.ext x1) m1 r1 q
theorem tT1 {g:Env->Mem->Res Bool}{β:Type}{f:Bool->Mem->Res β}{P:β->Mem->Prop}{R:Bool->Hp->Prop} (hE:za4 fa K μ H σ ρ) (hM:RelM fa K μ H M) (h:okE ((g ρ M).bind f) P)
    (k:∀ b M1 H1 μ1,Ext μ H μ1 H1->za4 fa K μ1 H1 σ ρ->RelM fa K μ1 H1 M1->okE (f b M1) P->R b H1):tT fa K g σ H R:=by
  obtain ⟨b,M1,e,q⟩:=za5 h
  refine ⟨μ,ρ,M,hE,hM,?_⟩
  rw [e]
  exact fun H1 μ1 x1 m1=>k b M1 H1 μ1 x1 (hE.ext x1) m1 q
theorem tA1 {g:Env->Mem->Res (List D)}{β:Type}{f:List D->Mem->Res β}{P:β->Mem->Prop}{R:List V->Hp->Prop} (hE:za4 fa K μ H σ ρ) (hM:RelM fa K μ H M) (h:okE ((g ρ M).bind f) P)
    (k:∀ ds M1 vs H1 μ1,Ext μ H μ1 H1->za4 fa K μ1 H1 σ ρ->RelM fa K μ1 H1 M1->zat fa K μ1 H1 ds vs->okE (f ds M1) P->R vs H1):tA fa K g σ H R:=by
  obtain ⟨ds,M1,e,q⟩:=za5 h
  refine ⟨μ,ρ,M,hE,hM,?_⟩
  rw [e]
  exact fun v H1 μ1 x1 m1 r1=>k ds M1 v H1 μ1 x1 (hE.ext x1) m1 r1 q
end
end LD
namespace LD
open PySem PySem.Spec PyProof.Rows L2
mutual
def toPy:D->PyData
  | .non=>.none
  | .bl b=>.bool b
  | .int i=>.int i
  | .str x=>.str x
  | .tup ds=>.tuple (zb4 ds)
  | .lst ds=>.list (zb4 ds)
  | .frz _=>.none
  | .cell _=>.none
  | .fn _=>.none
  | .exc _ _=>.none
def zb4:List D->List PyData
  | []=>[]
  | d::r=>toPy d::zb4 r
end
theorem zik:∀ (n:Nat) (d:D),zao n d=true->(toPy d).canLay0=true /\ (toPy d).depth≤n:=by
  have all:∀ (n:Nat),(∀ d,zao n d=true->(toPy d).canLay0=true /\ (toPy d).depth≤n)->∀ ds:List D,ds.all (zao n)=true->PyData.canLayAll0 (zb4 ds)=true /\ PyData.depthAll (zb4 ds)≤n:=by
    intro n h ds
    induction ds with
    | nil=>intro _;simp [zb4,PyData.canLayAll0,PyData.depthAll]
    | cons d r ih =>
      intro q
      simp only [List.all_cons,Bool.and_eq_true] at q
      obtain ⟨h1,h2⟩:=h d q.1
      obtain ⟨h3,h4⟩:=ih q.2
      simp only [zb4,PyData.canLayAll0,PyData.depthAll,h1,h3,Bool.and_self,true_and]
      omega
  intro n
  induction n with
  | zero =>
    intro d h
    cases d with
    | str x=>exact ⟨by simpa [toPy,PyData.canLay0,PyData.strOk,zao] using h,by simp [toPy,PyData.depth]⟩
    | tup _=>simp [zao] at h
    | lst _=>simp [zao] at h
    | frz _=>simp [zao] at h
    | cell _=>simp [zao] at h
    | fn _=>simp [zao] at h
    | exc y p=>simp [zao] at h
    | _=>exact ⟨by simp [toPy,PyData.canLay0],by simp [toPy,PyData.depth]⟩
  | succ n ih =>
    intro d h
    cases d with
    | str x=>exact ⟨by simpa [toPy,PyData.canLay0,PyData.strOk,zao] using h,by simp [toPy,PyData.depth]⟩
    | tup ds =>
      obtain ⟨h1,h2⟩:=all n ih ds (by simpa [zao] using h)
      simp only [toPy,PyData.canLay0,PyData.depth,h1,true_and]
      omega
    | lst ds =>
      obtain ⟨h1,h2⟩:=all n ih ds (by simpa [zao] using h)
      simp only [toPy,PyData.canLay0,PyData.depth,h1,true_and]
      omega
    | frz _=>simp [zao] at h
    | cell _=>simp [zao] at h
    | fn _=>simp [zao] at h
    | exc y p=>simp [zao] at h
    | _=>exact ⟨by simp [toPy,PyData.canLay0],by simp [toPy,PyData.depth]⟩
theorem ze2 {d:D} (h:zao 64 d=true):SeqAt.shaped (toPy d)=true:=by
  obtain ⟨h1,h2⟩:=zik 64 d h
  simp [SeqAt.shaped,h1,h2]
mutual
theorem zgs:∀ (n m:Nat) (a b:D),zao n a=true->zao m b=true->PyData.eqv (toPy a) (toPy b)=zba a b
  | n, m, .tup a, .tup b, ha, hb => by
    cases n with
    | zero=>simp [zao] at ha
    | succ n =>
      cases m with
      | zero=>simp [zao] at hb
      | succ m =>
        simp only [toPy,PyData.eqv,zba]
        exact zhf n m a b (by simpa [zao] using ha) (by simpa [zao] using hb)
  | n, m, .lst a, .lst b, ha, hb => by
    cases n with
    | zero=>simp [zao] at ha
    | succ n =>
      cases m with
      | zero=>simp [zao] at hb
      | succ m =>
        simp only [toPy,PyData.eqv,zba]
        exact zhf n m a b (by simpa [zao] using ha) (by simpa [zao] using hb)
  | n,m,.frz _,_,ha,hb=>by cases n<;>simp [zao] at ha
  | n,m,.cell _,_,ha,hb=>by cases n<;>simp [zao] at ha
  | n,m,.fn _,_,ha,hb=>by cases n<;>simp [zao] at ha
  | n,m,.exc _ _,_,ha,hb=>by cases n<;>simp [zao] at ha
  | n,m,_,.frz _,ha,hb=>by cases m<;>simp [zao] at hb
  | n,m,_,.cell _,ha,hb=>by cases m<;>simp [zao] at hb
  | n,m,_,.fn _,ha,hb=>by cases m<;>simp [zao] at hb
  | n,m,_,.exc _ _,ha,hb=>by cases m<;>simp [zao] at hb
  | _,_,.non,.non,_,_=>by simp [toPy,PyData.eqv,zba]
  | _,_,.non,.bl _,_,_=>by simp [toPy,PyData.eqv,zba]
  | _,_,.non,.int _,_,_=>by simp [toPy,PyData.eqv,zba]
  | _,_,.non,.str _,_,_=>by simp [toPy,PyData.eqv,zba]
  | _,_,.non,.tup _,_,_=>by simp [toPy,PyData.eqv,zba]
  | _,_,.non,.lst _,_,_=>by simp [toPy,PyData.eqv,zba]
  | _,_,.bl _,.non,_,_=>by simp [toPy,PyData.eqv,zba]
  | _,_,.bl _,.bl _,_,_=>by simp [toPy,PyData.eqv,zba]
  | _,_,.bl _,.int _,_,_=>by simp [toPy,PyData.eqv,zba]
  | _,_,.bl _,.str _,_,_=>by simp [toPy,PyData.eqv,zba]
  | _,_,.bl _,.tup _,_,_=>by simp [toPy,PyData.eqv,zba]
  | _,_,.bl _,.lst _,_,_=>by simp [toPy,PyData.eqv,zba]
  | _,_,.int _,.non,_,_=>by simp [toPy,PyData.eqv,zba]
  | _,_,.int _,.bl _,_,_=>by simp [toPy,PyData.eqv,zba]
  | _,_,.int _,.int _,_,_=>by simp [toPy,PyData.eqv,zba]
  | _,_,.int _,.str _,_,_=>by simp [toPy,PyData.eqv,zba]
  | _,_,.int _,.tup _,_,_=>by simp [toPy,PyData.eqv,zba]
  | _,_,.int _,.lst _,_,_=>by simp [toPy,PyData.eqv,zba]
  | _,_,.str _,.non,_,_=>by simp [toPy,PyData.eqv,zba]
  | _,_,.str _,.bl _,_,_=>by simp [toPy,PyData.eqv,zba]
  | _,_,.str _,.int _,_,_=>by simp [toPy,PyData.eqv,zba]
  | _,_,.str _,.str _,_,_=>by simp [toPy,PyData.eqv,zba]
  | _,_,.str _,.tup _,_,_=>by simp [toPy,PyData.eqv,zba]
  | _,_,.str _,.lst _,_,_=>by simp [toPy,PyData.eqv,zba]
  | _,_,.tup _,.non,_,_=>by simp [toPy,PyData.eqv,zba]
  | _,_,.tup _,.bl _,_,_=>by simp [toPy,PyData.eqv,zba]
  | _,_,.tup _,.int _,_,_=>by simp [toPy,PyData.eqv,zba]
  | _,_,.tup _,.str _,_,_=>by simp [toPy,PyData.eqv,zba]
  | _,_,.tup _,.lst _,_,_=>by simp [toPy,PyData.eqv,zba]
  | _,_,.lst _,.non,_,_=>by simp [toPy,PyData.eqv,zba]
  | _,_,.lst _,.bl _,_,_=>by simp [toPy,PyData.eqv,zba]
  | _,_,.lst _,.int _,_,_=>by simp [toPy,PyData.eqv,zba]
  | _,_,.lst _,.str _,_,_=>by simp [toPy,PyData.eqv,zba]
  | _,_,.lst _,.tup _,_,_=>by simp [toPy,PyData.eqv,zba]
theorem zhf:∀ (n m:Nat) (a b:List D),a.all (zao n)=true->b.all (zao m)=true->PyData.eqvAll (zb4 a) (zb4 b)=zgf a b
  | n,m,[],[],_,_=>by simp [zb4,PyData.eqvAll,zgf]
  | n,m,[],_::_,_,_=>by simp [zb4,PyData.eqvAll,zgf]
  | n,m,_::_,[],_,_=>by simp [zb4,PyData.eqvAll,zgf]
  | n, m, x :: a, y :: b, ha, hb => by
    simp only [List.all_cons,Bool.and_eq_true] at ha hb
    simp only [zb4,PyData.eqvAll,zgf]
    rw [zgs n m x y ha.1 hb.1,zhf n m a b ha.2 hb.2]
end
section
variable {fa:Fa}{X:Cx}{μ:Mu}{H:Hp}{σ:L2.St}{pins:List (Addr×Obj)}{s:Shared}{M:Mem}
theorem zes {d:D}{v:V}{ds:List D} (hM:RelM fa X.K μ H M) (h:Rep fa X.K μ H d v) (e:zew M d=some ds):∃ a vs,v=.ref a /\ H a=some (.lst vs) /\ zat fa X.K μ H ds vs:=by
  cases d with
  | lst xs =>
    cases e
    obtain ⟨a,vs,e,s,r⟩:=h
    exact ⟨a,vs,e,s.1,r⟩
  | cell k =>
    obtain ⟨a,rfl,hk⟩:=h
    obtain ⟨b,vs,h1,h2,h3⟩:=hM.at' k ds e
    rw [hk] at h1;cases h1
    exact ⟨a,vs,rfl,h2,h3⟩
  | _=>cases e
theorem zbl {d:D}{v:V}{ds:List D} (hM:RelM fa X.K μ H M) (h:Rep fa X.K μ H d v) (e:rdD M d=some ds):∃ a vs,v=.ref a /\ SqL X.K H a vs /\ zat fa X.K μ H ds vs:=by
  cases d with
  | lst xs =>
    obtain ⟨a,vs,h1,h2,h3⟩:=zes (ds:=ds) hM h e
    exact ⟨a,vs,h1,.of h2,h3⟩
  | frz xs =>
    cases e
    obtain ⟨a,vs,e,s,r⟩:=h
    exact ⟨a,vs,e,s.elim (fun z=>.inl (.inr z)) .inr,r⟩
  | cell k =>
    obtain ⟨a,vs,h1,h2,h3⟩:=zes (ds:=ds) hM h e
    exact ⟨a,vs,h1,.of h2,h3⟩
  | _=>cases e
theorem zer {d:D}{v:V}{ds:List D} (hM:RelM fa X.K μ H M) (h:Rep fa X.K μ H d v) (e:zbr M d=some ds):∃ a vs,v=.ref a /\ (SqL X.K H a vs \/ SqT X.K H a vs) /\ zat fa X.K μ H ds vs:=by
  cases d with
  | tup xs =>
    cases e
    obtain ⟨a,vs,rfl,h1,h2⟩:=h
    exact ⟨a,vs,rfl,.inr h1,h2⟩
  | lst xs =>
    obtain ⟨a,vs,h1,h2,h3⟩:=zbl (ds:=ds) hM h e
    exact ⟨a,vs,h1,.inl h2,h3⟩
  | frz xs =>
    obtain ⟨a,vs,h1,h2,h3⟩:=zbl (ds:=ds) hM h e
    exact ⟨a,vs,h1,.inl h2,h3⟩
  | cell k =>
    obtain ⟨a,vs,h1,h2,h3⟩:=zbl (ds:=ds) hM h e
    exact ⟨a,vs,h1,.inl h2,h3⟩
  | _=>cases e
mutual
theorem zcx (I:Inv X pins σ H s):∀ (d:D) (n:Nat) (v:V) (u:Value),zao n d=true->Rep fa X.K μ H d v->RelV v u->∃ as,Reads s.heap u (toPy d) as
  | .non, n, v, u, _, h, r => by
    obtain rfl:v=.non:=h
    obtain rfl:u=Value.none:=r
    exact ⟨_,.none⟩
  | .bl b, n, v, u, _, h, r => by
    obtain rfl:v=.bl b:=h
    obtain rfl:u=Value.bool b:=r
    exact ⟨_,.bool b⟩
  | .int i, n, v, u, _, h, r => by
    obtain rfl:v=.int i:=h
    obtain ⟨t,rfl⟩:=r
    exact ⟨_,.int i t⟩
  | .str x, n, v, u, _, h, r => by
    obtain rfl:v=.str x:=h
    obtain ⟨t,rfl⟩:=r
    exact ⟨_,.str x t⟩
  | .tup ds, n, v, u, hp, h, r => by
    cases n with
    | zero=>simp [zao] at hp
    | succ n =>
      obtain ⟨a,vs,rfl,h1,h2⟩:=h
      obtain rfl:u=Value.ref a:=r
      obtain ⟨its,rv,⟨o,e1,e2,k,e3⟩,_⟩:=I.tuple h1
      obtain ⟨as,q⟩:=zdq I ds n vs its (by simpa [zao] using hp) h2 rv
      exact ⟨_,.tuple e1 e2 e3 (by simpa using q)⟩
  | .lst ds, n, v, u, hp, h, r => by
    cases n with
    | zero=>simp [zao] at hp
    | succ n =>
      obtain ⟨a,vs,rfl,h1,h2⟩:=h
      obtain rfl:u=Value.ref a:=r
      obtain ⟨its,rv,⟨o,k,e1,e2,e4,e3⟩,_⟩:=I.list (SqL.of h1.1)
      obtain ⟨as,q⟩:=zdq I ds n vs its (by simpa [zao] using hp) h2 rv
      exact ⟨_,.list e1 e2 e3 (by simpa using q)⟩
  | .frz k,n,v,u,hp,_,_=>by cases n<;>simp [zao] at hp
  | .cell k,n,v,u,hp,_,_=>by cases n<;>simp [zao] at hp
  | .fn f,n,v,u,hp,_,_=>by cases n<;>simp [zao] at hp
  | .exc _ _,n,v,u,hp,_,_=>by cases n<;>simp [zao] at hp
theorem zdq (I:Inv X pins σ H s):∀ (ds:List D) (n:Nat) (vs:List V) (us:List Value),ds.all (zao n)=true->zat fa X.K μ H ds vs->Vals vs us->∃ as,ReadsAll s.heap us (zb4 ds) as
  | [], n, vs, us, _, h, r => by
    obtain rfl:vs=[]:=h
    cases r
    exact ⟨_,.nil⟩
  | d :: ds, n, vs, us, hp, h, r => by
    obtain ⟨v,vr,rfl,h1,h2⟩:=h
    simp only [List.all_cons,Bool.and_eq_true] at hp
    cases r with
    | cons r1 r2 =>
      obtain ⟨as,q1⟩:=zcx I d n v _ hp.1 h1 r1
      obtain ⟨bs,q2⟩:=zdq I ds n vr _ hp.2 h2 r2
      exact ⟨_,.cons q1 q2⟩
end
theorem zsf {d:D}{n:Nat} (h:zao n (view M d)=true):(view M d=d /\ zao n d=true) \/ ∃ ds,rdD M d=some ds /\ view M d=.lst ds:=by
  cases d with
  | cell k =>
    cases e:M[k]? with
    | none =>
      have ev:view M (.cell k)=.cell k:=by simp [view,e]
      rw [ev] at h
      cases n<;>simp [zao] at h
    | some ds=>exact .inr ⟨ds,e,by simp [view,e]⟩
  | frz ds=>exact .inr ⟨ds,rfl,rfl⟩
  | _=>exact .inl ⟨rfl,h⟩
theorem zfn (I:Inv X pins σ H s) (hM:RelM fa X.K μ H M) {d:D}{v:V}{u:Value} (hp:zao 64 (view M d)=true) (h:Rep fa X.K μ H d v) (r:RelV v u):∃ as,Reads s.heap u (toPy (view M d)) as:=by
  rcases zsf hp with ⟨e,hp'⟩ | ⟨ds,e,ev⟩
  · rw [e];exact zcx I _ 64 v u hp' h r
  · rw [ev] at hp ⊢
    obtain ⟨a,vs,rfl,h1,h2⟩:=zbl (ds:=ds) hM h e
    obtain rfl:u=Value.ref a:=r
    obtain ⟨its,rv,⟨o,k,e1,e2,e4,e3⟩,_⟩:=I.list h1
    obtain ⟨as,q⟩:=zdq I ds 63 vs its (by simpa [zao] using hp) h2 rv
    exact ⟨_,.list e1 e2 e3 (by simpa using q)⟩
theorem ze6 (I:Inv X pins σ H s) (hM:RelM fa X.K μ H M):∀ (n m:Nat) (d:D) (v:V) (u:Value),zao m (zct n M d)=true->Rep fa X.K μ H d v->RelV v u->∃ as,Reads s.heap u (toPy (zct n M d)) as
  | 0,m,d,v,u,hp,h,r=>zcx I d m v u hp h r
  | n + 1, m, d, v, u, hp, h, r => by
    have ih:=ze6 I hM n
    have all:∀ (m:Nat) (ds:List D) (vs:List V) (us:List Value),(ds.map (zct n M)).all (zao m)=true->zat fa X.K μ H ds vs->Vals vs us->∃ as,ReadsAll s.heap us (zb4 (ds.map (zct n M))) as:=by
      intro m ds
      induction ds with
      | nil =>
        intro vs us _ h r
        obtain rfl:vs=[]:=h
        cases r
        exact ⟨_,.nil⟩
      | cons d ds ihl =>
        intro vs us hp h r
        obtain ⟨v,vr,rfl,h1,h2⟩:=h
        simp only [List.map_cons,List.all_cons,Bool.and_eq_true] at hp
        cases r with
        | cons r1 r2 =>
          obtain ⟨as,q1⟩:=ih m d v _ hp.1 h1 r1
          obtain ⟨bs,q2⟩:=ihl vr _ hp.2 h2 r2
          exact ⟨_,.cons q1 q2⟩
    have lst:∀ (ds:List D) (a:Addr) (vs:List V),zao m (.lst (ds.map (zct n M)))=true->SqL X.K H a vs->zat fa X.K μ H ds vs->u=.ref a->∃ as,Reads s.heap u (toPy (.lst (ds.map (zct n M)))) as:=by
      intro ds a vs hp h1 h2 e
      subst e
      cases m with
      | zero=>simp [zao] at hp
      | succ m =>
        obtain ⟨its,rv,⟨o,k,e1,e2,e4,e3⟩,_⟩:=I.list h1
        obtain ⟨as,q⟩:=all m ds vs its (by simpa [zao] using hp) h2 rv
        exact ⟨_,.list e1 e2 e3 (by simpa using q)⟩
    cases d with
    | cell k =>
      cases e:M[k]? with
      | none =>
        have ev:zct (n+1) M (.cell k)=.cell k:=by simp [zct,e]
        rw [ev] at hp
        cases m<;>simp [zao] at hp
      | some ds =>
        have ev:zct (n+1) M (.cell k)=.lst (ds.map (zct n M)):=by simp [zct,e]
        rw [ev] at hp ⊢
        obtain ⟨a,vs,rfl,h1,h2⟩:=zbl (ds:=ds) hM h e
        exact lst ds a vs hp h1 h2 r
    | frz ds =>
      obtain ⟨a,vs,rfl,h1,h2⟩:=zbl (ds:=ds) hM h rfl
      exact lst ds a vs hp h1 h2 r
    | lst ds =>
      obtain ⟨a,vs,rfl,h1,h2⟩:=zbl (ds:=ds) hM h rfl
      exact lst ds a vs hp h1 h2 r
    | tup ds =>
      have hp:zao m (.tup (ds.map (zct n M)))=true:=hp
      cases m with
      | zero=>simp [zao] at hp
      | succ m =>
        obtain ⟨a,vs,rfl,h1,h2⟩:=h
        obtain rfl:u=Value.ref a:=r
        obtain ⟨its,rv,⟨o,e1,e2,k,e3⟩,_⟩:=I.tuple h1
        obtain ⟨as,q⟩:=all m ds vs its (by simpa [zao] using hp) h2 rv
        exact ⟨_,.tuple e1 e2 e3 (by simpa using q)⟩
    | non=>exact zcx I .non m v u hp h r
    | bl b=>exact zcx I (.bl b) m v u hp h r
    | int i=>exact zcx I (.int i) m v u hp h r
    | str x=>exact zcx I (.str x) m v u hp h r
    | fn f=>exact zcx I (.fn f) m v u hp h r
    | exc y p=>exact zcx I (.exc y p) m v u hp h r
abbrev Rm (X:Cx):Prop:=X.A.units+100 < cLine
def zeh (fa:Fa) (K:PySem.W.Frag) (o:Cmp):R2:=fun x y H Q=>∃ μ M dx dy b,RelM fa K μ H M /\ Rep fa K μ H dx x /\ Rep fa K μ H dy y /\ zcv o dx dy M=some b /\ Q (.bl b) H
theorem zl1 {a b:D}{k:Bool} (h:eqD a b=some k):zao 64 a=true /\ zao 64 b=true /\ k=zba a b:=by
  unfold eqD at h
  split at h
  · next q=>
    simp only [Bool.and_eq_true] at q
    exact ⟨q.1,q.2,(Option.some.inj h).symm⟩
  · cases h
theorem zjv (I:Inv X pins σ H s) (hM:RelM fa X.K μ H M) {a b:D}{x y:V}{v u:Value}{k:Bool} (h:eqM M a b=some k) (h1:Rep fa X.K μ H a x) (h2:Rep fa X.K μ H b y) (rx:RelV x v) (ry:RelV y u) :
    ∃ c e as bs,zao 64 c=true /\ zao 64 e=true /\ k=zba c e /\ Reads s.heap v (toPy c) as /\ Reads s.heap u (toPy e) bs:=by
  unfold eqM at h
  cases q:eqD (view M a) (view M b) with
  | some r =>
    rw [q] at h
    cases h
    obtain ⟨p1,p2,e⟩:=zl1 q
    obtain ⟨as,r1⟩:=zfn I hM p1 h1 rx
    obtain ⟨bs,r2⟩:=zfn I hM p2 h2 ry
    exact ⟨_,_,as,bs,p1,p2,e,r1,r2⟩
  | none =>
    rw [q] at h
    obtain ⟨p1,p2,e⟩:=zl1 h
    obtain ⟨as,r1⟩:=ze6 I hM 64 64 a x v p1 h1 rx
    obtain ⟨bs,r2⟩:=ze6 I hM 64 64 b y u p2 h2 ry
    exact ⟨_,_,as,bs,p1,p2,e,r1,r2⟩
theorem c_eq (hu:Rm X):OpR X (compareOp .Eq) (zeh fa X.K .eq):=by
  intro pins s σ H x y v u Q I rx ry h
  obtain ⟨μ,M,dx,dy,b,hM,h1,h2,e,q⟩:=h
  obtain ⟨_,_,as,bs,p1,p2,rfl,r1,r2⟩:=zjv I hM (show eqM M dx dy=some b from e) h1 h2 rx ry
  refine SeqAt.compareEq_shaped r1 r2 (ze2 p1) (ze2 p2) (by unfold Rm at hu;omega) ?_
  rw [zgs 64 64 _ _ p1 p2]
  exact ⟨.bl _,H,I,rfl,q⟩
theorem c_ne (hu:Rm X):OpR X (compareOp .NotEq) (zeh fa X.K .ne):=by
  intro pins s σ H x y v u Q I rx ry h
  obtain ⟨μ,M,dx,dy,b,hM,h1,h2,e,q⟩:=h
  have e:(eqM M dx dy).map (!·)=some b:=e
  cases e':eqM M dx dy with
  | none=>rw [e'] at e;cases e
  | some k =>
    rw [e'] at e
    obtain rfl:(!k)=b:=Option.some.inj e
    obtain ⟨_,_,as,bs,p1,p2,rfl,r1,r2⟩:=zjv I hM e' h1 h2 rx ry
    refine SeqAt.compareNe_shaped r1 r2 (ze2 p1) (ze2 p2) (by unfold Rm at hu;omega) ?_
    rw [zgs 64 64 _ _ p1 p2]
    exact ⟨.bl _,H,I,rfl,q⟩
end
end LD
namespace LD
open PySem PySem.Spec PyProof.Rows L2
section
variable {fa:Fa}{X:Cx}{μ:Mu}{H:Hp}{σ:L2.St}{pins:List (Addr×Obj)}{s:Shared}{M:Mem}
theorem zea {f:Value->Value->Sem Value}{r r':R2} (h:OpR X f r) (i:∀ x y H Q,r' x y H Q->r x y H Q):OpR X f r':=fun pins s σ H x y v u Q I rx ry q=>h pins s σ H x y v u Q I rx ry (i x y H Q q)
theorem zl7 {f:Value}{r r':List V->Hp->VK->Prop} (h:zcn X f r) (i:∀ xs H Q,r' xs H Q->r xs H Q):zcn X f r':=fun pins s σ H xs us Q I rx q=>h pins s σ H xs us Q I rx (i xs H Q q)
theorem zgu {o:Cmp}{g:Int->Int->Bool} (ho:o=.lt \/ o=.le \/ o=.gt \/ o=.ge) (hg:∀ i j,zcv o (.int i) (.int j) []=some (g i j)) {x y:V}{Q:VK} (h:zeh fa X.K o x y H Q) :
    ∃ i j,x=.int i /\ y=.int j /\ Q (.bl (g i j)) H:=by
  obtain ⟨μ,M,dx,dy,b,hM,h1,h2,e,q⟩:=h
  have key:∀ i j,dx=.int i->dy=.int j->∃ i j,x=.int i /\ y=.int j /\ Q (.bl (g i j)) H:=fun i j e1 e2=>by
    subst e1 e2
    have e3:zcv o (.int i) (.int j) M=some (g i j):=by
      have:=hg i j
      rcases ho with rfl | rfl | rfl | rfl<;>exact this
    rw [e] at e3
    have e4:=Option.some.inj e3
    subst e4
    exact ⟨i,j,h1,h2,q⟩
  rcases ho with rfl | rfl | rfl | rfl<;>
  · cases dx with
    | int i=>cases dy<;>first | exact key _ _ rfl rfl | cases e
    | _=>cases e
theorem c_lt:OpR X (compareOp .Lt) (zeh fa X.K .lt):=zea op_lt fun x y H Q h=>zgu (.inl rfl) (fun _ _=>rfl) h
theorem c_le:OpR X (compareOp .LtE) (zeh fa X.K .le):=zea op_le fun x y H Q h=>zgu (.inr (.inl rfl)) (fun _ _=>rfl) h
theorem c_gt:OpR X (compareOp .Gt) (zeh fa X.K .gt):=zea op_gt fun x y H Q h=>zgu (.inr (.inr (.inl rfl))) (fun _ _=>rfl) h
theorem c_ge:OpR X (compareOp .GtE) (zeh fa X.K .ge):=zea op_ge fun x y H Q h=>zgu (.inr (.inr (.inr rfl))) (fun _ _=>rfl) h
theorem zmr {d:D}{v:V}{K:PySem.W.Frag} (h:Rep fa K μ H d v):decide (v=.non)=zgq d:=by
  cases d with
  | non=>obtain rfl:v=.non:=h;rfl
  | bl b=>obtain rfl:v=.bl b:=h;rfl
  | int b=>obtain rfl:v=.int b:=h;rfl
  | str b=>obtain rfl:v=.str b:=h;rfl
  | tup b=>obtain ⟨a,vs,rfl,_⟩:=h;rfl
  | lst b=>obtain ⟨a,vs,rfl,_⟩:=h;rfl
  | frz b=>obtain ⟨a,vs,rfl,_⟩:=h;rfl
  | cell b=>obtain ⟨a,rfl,_⟩:=h;rfl
  | fn b=>obtain ⟨a,rfl,_⟩:=h;rfl
  | exc y p=>obtain ⟨a,_,_,rfl,_⟩:=h;rfl
theorem c_isN:OpR X (compareOp .Is) (zeh fa X.K .isN):=zea op_isN fun x y H Q h=>by
  obtain ⟨μ,M,dx,dy,b,hM,h1,h2,e,q⟩:=h
  cases dy<;>first | cases (show (none:Option Bool)=some b from e) | skip
  refine ⟨h2,?_⟩
  rw [zmr h1]
  have e:some (zgq dx)=some b:=e
  rw [Option.some.inj e];exact q
theorem c_notN:OpR X (compareOp .IsNot) (zeh fa X.K .notN):=zea zs9 fun x y H Q h=>by
  obtain ⟨μ,M,dx,dy,b,hM,h1,h2,e,q⟩:=h
  cases dy<;>first | cases (show (none:Option Bool)=some b from e) | skip
  refine ⟨h2,?_⟩
  rw [zmr h1]
  have e:some (!zgq dx)=some b:=e
  rw [Option.some.inj e];exact q
theorem zme (x:D) (hx:zao 64 x=true):∀ (ds:List D),ds.all (zao 63)=true->((zb4 ds).any fun y=>PyData.eqv y (toPy x))=ds.any fun y=>zba y x
  | [],_=>rfl
  | d :: r, h => by
    simp only [List.all_cons,Bool.and_eq_true] at h
    simp only [zb4,List.any_cons,zgs 63 64 d x h.1 hx,zme x hx r h.2]
theorem zk5 (n:Nat):∀ ds:List D,ds.all (zao n)=true->PyData.canLayAll0 (zb4 ds)=true /\ PyData.depthAll (zb4 ds)≤n
  | [],_=>by simp [zb4,PyData.canLayAll0,PyData.depthAll]
  | d :: r, h => by
    simp only [List.all_cons,Bool.and_eq_true] at h
    obtain ⟨h1,h2⟩:=zik n d h.1
    obtain ⟨h3,h4⟩:=zk5 n r h.2
    simp only [zb4,PyData.canLayAll0,PyData.depthAll,h1,h3,Bool.and_self,true_and]
    omega
theorem zou (I:Inv X pins σ H s) (hM:RelM fa X.K μ H M) {d:D}{v:V}{u:Value}{ds:List D} (hp:ds.all (zao 63)=true) (h:Rep fa X.K μ H d v) (r:RelV v u) (e:zbr M d=some ds) :
    (∃ as,Reads s.heap u (.list (zb4 ds)) as) \/ ∃ as,Reads s.heap u (.tuple (zb4 ds)) as:=by
  obtain ⟨a,vs,rfl,h1,h2⟩:=zer (ds:=ds) hM h e
  obtain rfl:u=Value.ref a:=r
  rcases h1 with h1 | h1
  · obtain ⟨its,rv,⟨o,k,e1,e2,e4,e3⟩,_⟩:=I.list h1
    obtain ⟨as,q⟩:=zdq I ds 63 vs its hp h2 rv
    exact .inl ⟨_,.list e1 e2 e3 (by simpa using q)⟩
  · obtain ⟨its,rv,⟨o,e1,e2,k,e3⟩,_⟩:=I.tuple h1
    obtain ⟨as,q⟩:=zdq I ds 63 vs its hp h2 rv
    exact .inr ⟨_,.tuple e1 e2 e3 (by simpa using q)⟩
theorem zpc (hu:Rm X) {x y:V}{v u:Value}{dx dy:D}{ds:List D}{b:Bool}{Q:Value->Shared->Prop} (I:Inv X pins σ H s) (hM:RelM fa X.K μ H M) (h1:Rep fa X.K μ H dx x) (h2:Rep fa X.K μ H dy y) (rx:RelV x v) (ry:RelV y u)
    (e1:zbr M dy=some ds) (e2:inL (view M dx) ds=some b) (neg:Bool) (q:Q (.bool (if neg then !b else b)) s):wpAny (model X.prog X.w) X.A (compareOp (if neg then .NotIn else .In) v u) Q X.xe s:=by
  unfold inL at e2
  split at e2
  · next z=>
    simp only [Bool.and_eq_true] at z
    obtain ⟨p1,p2⟩:=z
    have e3:=Option.some.inj e2
    subst e3
    obtain ⟨as,r1⟩:=zfn I hM p1 h1 rx
    obtain ⟨c1,d1⟩:=zik 64 _ p1
    obtain ⟨c2,d2⟩:=zk5 63 ds p2
    have hu':X.A.units+1+min (PyData.depthAll (zb4 ds)) (toPy (view M dx)).depth < cLine:=by unfold Rm at hu;omega
    rw [<- zme _ p1 ds p2] at q
    rcases zou I hM p2 h2 ry e1 with ⟨bs,r2⟩ | ⟨bs,r2⟩
    · cases neg
      · exact SeqAt.in_list_reads r2 r1 c2 c1 hu' q
      · exact SeqAt.notIn_list_reads r2 r1 c2 c1 hu' q
    · cases neg
      · exact SeqAt.in_tuple_reads r2 r1 c2 c1 hu' q
      · exact SeqAt.notIn_tuple_reads r2 r1 c2 c1 hu' q
  · cases e2
theorem c_in (hu:Rm X):OpR X (compareOp .In) (zeh fa X.K .isin):=by
  intro pins s σ H x y v u Q I rx ry h
  obtain ⟨μ,M,dx,dy,b,hM,h1,h2,e,q⟩:=h
  have gen:(zbr M dy).bind (inL (view M dx))=some b->wpAny (model X.prog X.w) X.A (compareOp .In v u) (EP X pins σ Q) X.xe s:=fun e=>by
    cases e1:zbr M dy with
    | none=>rw [e1] at e;cases e
    | some ds =>
      rw [e1] at e
      exact zpc hu I hM h1 h2 rx ry e1 e false ⟨.bl b,H,I,rfl,q⟩
  by_cases hs:(∃ a,dx=.str a) /\ ∃ c,dy=.str c
  · obtain ⟨⟨a,rfl⟩,c,rfl⟩:=hs
    have e:some (zep a c)=some b:=e
    have e':=Option.some.inj e
    subst e'
    exact zo7 pins s σ H x y v u Q I rx ry ⟨a,c,h1,h2,q⟩
  · refine gen ?_
    cases dx<;>first | exact e | (cases dy<;>first | exact e | exact absurd ⟨⟨_,rfl⟩,_,rfl⟩ hs)
theorem zt4 (hu:Rm X):OpR X (compareOp .NotIn) (zeh fa X.K .notin):=by
  intro pins s σ H x y v u Q I rx ry h
  obtain ⟨μ,M,dx,dy,b,hM,h1,h2,e,q⟩:=h
  have gen:((zbr M dy).bind (inL (view M dx))).map (!·)=some b->wpAny (model X.prog X.w) X.A (compareOp .NotIn v u) (EP X pins σ Q) X.xe s:=fun e=>by
    cases e1:zbr M dy with
    | none=>rw [e1] at e;cases e
    | some ds =>
      rw [e1] at e
      cases e2:inL (view M dx) ds with
      | none=>rw [Option.bind_some,e2] at e;cases e
      | some k =>
        rw [Option.bind_some,e2] at e
        have e':=Option.some.inj e
        subst e'
        exact zpc hu I hM h1 h2 rx ry e1 e2 true ⟨.bl _,H,I,rfl,q⟩
  by_cases hs:(∃ a,dx=.str a) /\ ∃ c,dy=.str c
  · obtain ⟨⟨a,rfl⟩,c,rfl⟩:=hs
    have e:some (!zep a c)=some b:=e
    have e':=Option.some.inj e
    subst e'
    exact zlm pins s σ H x y v u Q I rx ry ⟨a,c,h1,h2,q⟩
  · refine gen ?_
    cases dx<;>first | exact e | (cases dy<;>first | exact e | exact absurd ⟨⟨_,rfl⟩,_,rfl⟩ hs)
def zdt:Cmp->CmpOp
  | .eq=>.Eq | .ne=>.NotEq | .lt=>.Lt | .le=>.LtE | .gt=>.Gt | .ge=>.GtE | .isN=>.Is | .notN=>.IsNot | .isin=>.In | .notin=>.NotIn
theorem c_all (hu:Rm X):∀ o:Cmp,OpR X (compareOp (zdt o)) (zeh fa X.K o)
  | .eq=>c_eq hu | .ne=>c_ne hu | .lt=>c_lt | .le=>c_le | .gt=>c_gt | .ge=>c_ge | .isN=>c_isN | .notN=>c_notN | .isin=>c_in hu | .notin=>zt4 hu
def zf6 (fa:Fa) (K:PySem.W.Frag) (m:Bool) (o:Bin):R2:=fun x y H Q=>∃ μ M dx dy,RelM fa K μ H M /\ Rep fa K μ H dx x /\ Rep fa K μ H dy y /\ okE (zdc m o dx dy M) (zbb fa K μ H Q)
theorem za6 {Q:VK}{d:D}{v:V} (hM:RelM fa X.K μ H M) (h:zbb fa X.K μ H Q d M) (r:Rep fa X.K μ H d v):Q v H:=h v H μ .refl hM r
theorem zeo {Q:VK}{m:Bool}{ds:List D}{vs:List V} (hM:RelM fa X.K μ H M) (r:zat fa X.K μ H ds vs) (h:okE (zbh m ds M) (zbb fa X.K μ H Q)):ds.length≤sz /\ ∀ p,H p=none->Q (.ref p) (upd H p (.lst vs)):=by
  unfold zbh at h
  split at h
  · next hz=>
    refine ⟨hz,fun p hp=>?_⟩
    cases m with
    | true =>
      have h:zbb fa X.K μ H Q (.cell M.length) (M++[ds]):=h
      exact h (.ref p) _ (zdr μ M.length p) (Ext.cell hM hp) (hM.cell hp r) ⟨p,rfl,by simp [zdr]⟩
    | false =>
      have h:zbb fa X.K μ H Q (.lst ds) M:=h
      exact h (.ref p) _ μ (Ext.alloc hM hp) (hM.alloc hp) ⟨p,vs,rfl,⟨zbg,hM.fresh hp⟩,r.ext (Ext.alloc hM hp)⟩
  · exact h.elim
theorem zg3 {Q:VK}{ds:List D}{vs:List V} (hM:RelM fa X.K μ H M) (r:zat fa X.K μ H ds vs) (h:zbb fa X.K μ H Q (.tup ds) M):∀ p,H p=none->Q (.ref p) (upd H p (.tup vs)):=fun p hp=>
  h (.ref p) _ μ (Ext.alloc hM hp) (hM.alloc hp) ⟨p,vs,rfl,.of zbg,r.ext (Ext.alloc hM hp)⟩
theorem zc1:sz=sizeLine:=by rw [sizeLine_eq];rfl
theorem zqq:OpR X (binaryOp .Add) (fun x y H Q=>∃ a b ys,x=.ref a /\ y=.ref b /\ SqT X.K H a [] /\ SqT X.K H b ys /\ Q (.ref b) H):=by
  intro pins s σ H x y v u Q I rx ry h
  obtain ⟨a,b,ys,rfl,rfl,ha,hb,q⟩:=h
  cases rx
  cases ry
  obtain ⟨its,r1,p1,_⟩:=I.tuple ha
  obtain ⟨its2,r2,p2,_⟩:=I.tuple hb
  cases r1
  obtain ⟨⟨cls,dd,data,sl⟩,ho,hc,n,hd⟩:=id p1
  obtain ⟨⟨cls2,dd2,data2,sl2⟩,ho2,hc2,n2,hd2⟩:=id p2
  simp only at hc hd hc2 hd2
  subst hc hd hc2 hd2
  exact concat_meets ⟨_,ho,rfl⟩ ⟨_,ho2,rfl⟩ noFill_tuple_add seq_tuple_add PySem.F.slot_tuple_add PySem.F.entry_tuple_add (PySem.F.args_tuple_add_2 _ _)
      (tuple_addW0 a b #[] its2.toArray n n2 dd dd2 sl sl2 rfl) ⟨ho,ho2,⟨.ref b,H,I,rfl,q⟩⟩
theorem zrb {m:Bool}{x y:V}{v u:Value}{dx dy:D}{Q:VK} (I:Inv X pins σ H s) (hM:RelM fa X.K μ H M) (h1:Rep fa X.K μ H dx x) (h2:Rep fa X.K μ H dy y) (rx:RelV x v) (ry:RelV y u)
    (h:okE (match zew M dx,zew M dy with | some x,some y=>zbh m (x++y) M | _,_=>.bad) (zbb fa X.K μ H Q)):wpAny (model X.prog X.w) X.A (binaryOp .Add v u) (EP X pins σ Q) X.xe s:=by
  cases e1:zew M dx with
  | none=>rw [e1] at h;exact h.elim
  | some xs =>
    cases e2:zew M dy with
    | none=>rw [e1,e2] at h;exact h.elim
    | some ys =>
      rw [e1,e2] at h
      obtain ⟨a,vs,rfl,ha,ra⟩:=zes hM h1 e1
      obtain ⟨b,ws,rfl,hb,rb⟩:=zes hM h2 e2
      obtain ⟨hz,k⟩:=zeo hM (ra.append rb) h
      refine op_cat pins s σ H _ _ v u Q I rx ry ⟨a,b,vs,ws,rfl,rfl,ha,hb,?_,k⟩
      rw [ra.length,rb.length,<- List.length_append,<- zc1];exact hz
theorem b_add (m:Bool):OpR X (binaryOp .Add) (zf6 fa X.K m .add):=by
  intro pins s σ H x y v u Q I rx ry h
  obtain ⟨μ,M,dx,dy,hM,h1,h2,h⟩:=h
  have hi:∀ i j,dx=.int i->dy=.int j->wpAny (model X.prog X.w) X.A (binaryOp .Add v u) (EP X pins σ Q) X.xe s:=fun i j e1 e2=>by
    subst e1 e2
    exact op_add pins s σ H x y v u Q I rx ry ⟨i,j,h1,h2,za6 (v:=.int (i+j)) hM h rfl⟩
  have hs:∀ i j,dx=.str i->dy=.str j->wpAny (model X.prog X.w) X.A (binaryOp .Add v u) (EP X pins σ Q) X.xe s:=fun i j e1 e2=>by
    subst e1 e2
    have h:okE (if i.cps.size+j.cps.size≤sz then .ok (.str ⟨i.cps++j.cps⟩) M else .bad) (zbb fa X.K μ H Q):=h
    split at h
    · next hz=>exact znh pins s σ H x y v u Q I rx ry ⟨i,j,h1,h2,by rw [<- zc1];exact hz,za6 (v:=.str ⟨i.cps++j.cps⟩) hM h rfl⟩
    · exact h.elim
  have ht:∀ i j,dx=.tup i->dy=.tup j->wpAny (model X.prog X.w) X.A (binaryOp .Add v u) (EP X pins σ Q) X.xe s:=fun i j e1 e2=>by
    subst e1 e2
    have h:okE (if (i++j).length≤sz then .ok (.tup (i++j)) M else .bad) (zbb fa X.K μ H Q):=h
    split at h
    · next hz=>
      have h:zbb fa X.K μ H Q (.tup (i++j)) M:=h
      obtain ⟨a,vs,e1,ha,ra⟩:=id h1
      obtain ⟨b,ws,e2,hb,rb⟩:=id h2
      by_cases h0:i=[]
      · subst h0
        obtain rfl:vs=[]:=ra
        exact zqq pins s σ H x y v u Q I rx ry ⟨a,b,ws,e1,e2,ha,hb,za6 hM h ⟨b,ws,rfl,hb,rb⟩⟩
      · have hv:vs≠[]:=fun z=>h0 (by have:=ra.length;rw [z] at this;exact List.length_eq_zero_iff.mp this.symm)
        refine ztb pins s σ H x y v u Q I rx ry ⟨a,b,vs,ws,e1,e2,ha,hb,hv,?_,fun z=>?_,fun _=>zg3 hM (ra.append rb) h⟩
        · rw [ra.length,rb.length,<- List.length_append,<- zc1];exact hz
        · subst z
          have ej:j=[]:=List.length_eq_zero_iff.mp rb.length.symm
          subst ej
          exact za6 hM h ⟨a,vs,rfl,ha,by simpa using ra⟩
    · exact h.elim
  cases dx<;>cases dy<;>first | exact hi _ _ rfl rfl | exact hs _ _ rfl rfl | exact ht _ _ rfl rfl | exact zrb (m:=m) I hM h1 h2 rx ry h
theorem b_int {op:Operator}{o:Bin}{m:Bool}{C:Int->Int->Prop}{g:Int->Int->Int} (hr:OpR X (binaryOp op) (rI C fun i j=>.int (g i j)))
    (hD:∀ dx dy M (P:D->Mem->Prop),okE (zdc m o dx dy M) P->∃ i j,dx=.int i /\ dy=.int j /\ C i j /\ P (.int (g i j)) M):OpR X (binaryOp op) (zf6 fa X.K m o):=zea hr fun x y H Q h=>by
  obtain ⟨μ,M,dx,dy,hM,h1,h2,h⟩:=h
  obtain ⟨i,j,rfl,rfl,c,q⟩:=hD dx dy M _ h
  exact ⟨i,j,h1,h2,c,za6 (v:=.int (g i j)) hM q rfl⟩
theorem b_sub (m:Bool):OpR X (binaryOp .Sub) (zf6 fa X.K m .sub):=b_int (C:=fun _ _=>True) (g:=fun i j=>i - j) (zea op_sub fun x y H Q ⟨i,j,e1,e2,_,q⟩=>⟨i,j,e1,e2,q⟩) fun dx dy M P h=>by
  cases dx<;>cases dy<;>first | exact ⟨_,_,rfl,rfl,trivial,h⟩ | exact h.elim
theorem b_fdiv (m:Bool):OpR X (binaryOp .FloorDiv) (zf6 fa X.K m .fdiv):=b_int zta fun dx dy M P h=>by
  have key:∀ i j,dx=.int i->dy=.int j->∃ i j,dx=.int i /\ dy=.int j /\ CDiv i j /\ P (.int (i / j)) M:=fun i j e1 e2=>by
    subst e1 e2
    have h:okE (if 0 < j /\ j < 1073741824 then .ok (.int (i / j)) M else .bad) P:=h
    split at h
    · next c=>exact ⟨i,j,rfl,rfl,c,h⟩
    · exact h.elim
  cases dx<;>cases dy<;>first | exact key _ _ rfl rfl | exact h.elim
theorem b_mod (m:Bool):OpR X (binaryOp .Mod) (zf6 fa X.K m .mod):=b_int op_mod fun dx dy M P h=>by
  have key:∀ i j,dx=.int i->dy=.int j->∃ i j,dx=.int i /\ dy=.int j /\ 0 < j /\ P (.int (i % j)) M:=fun i j e1 e2=>by
    subst e1 e2
    have h:okE (if 0 < j then .ok (.int (i % j)) M else .bad) P:=h
    split at h
    · next c=>exact ⟨i,j,rfl,rfl,c,h⟩
    · exact h.elim
  cases dx<;>cases dy<;>first | exact key _ _ rfl rfl | exact h.elim
theorem b_pow (m:Bool):OpR X (binaryOp .Pow) (zf6 fa X.K m .pow):=b_int op_pow fun dx dy M P h=>by
  have key:∀ i j,dx=.int i->dy=.int j->∃ i j,dx=.int i /\ dy=.int j /\ CPow i j /\ P (.int (i ^ j.toNat)) M:=fun i j e1 e2=>by
    subst e1 e2
    have h:okE (if 0≤j /\ j≤1000000 /\ i.natAbs < 2 ^ 64 then .ok (.int (i ^ j.toNat)) M else .bad) P:=h
    split at h
    · next c=>exact ⟨i,j,rfl,rfl,c,h⟩
    · exact h.elim
  cases dx<;>cases dy<;>first | exact key _ _ rfl rfl | exact h.elim
theorem zqi {m:Bool}{x y:V}{v u:Value}{dx:D}{j:Int}{Q:VK} (I:Inv X pins σ H s) (hM:RelM fa X.K μ H M) (h1:Rep fa X.K μ H dx x) (h2:Rep fa X.K μ H (.int j) y) (rx:RelV x v) (ry:RelV y u)
    (h:okE (match zew M dx with | some x=>if x.length * j.toNat≤sz /\ -(2 ^ 63)≤j /\ j < 2 ^ 63 then zbh m (List.replicate j.toNat x).flatten M else .bad | none=>.bad) (zbb fa X.K μ H Q)) :
    wpAny (model X.prog X.w) X.A (binaryOp .Mult v u) (EP X pins σ Q) X.xe s:=by
  cases e1:zew M dx with
  | none=>rw [e1] at h;exact h.elim
  | some xs =>
    rw [e1] at h
    simp only at h
    split at h
    · next c=>
      obtain ⟨a,vs,rfl,ha,ra⟩:=zes hM h1 e1
      obtain ⟨hz,k⟩:=zeo hM (ra.rep j.toNat) h
      exact op_rep pins s σ H _ _ v u Q I rx ry ⟨a,j,vs,rfl,h2,ha,c.2.1,c.2.2,by rw [ra.length,<- zc1];exact c.1,k⟩
    · exact h.elim
end
end LD
namespace LD
open PySem PySem.Spec PyProof.Rows L2 PySem.Builtin
open PySem.Sem (wp)
theorem zhc:fillsNumberSlot (.type "tuple") "mul"=pure false:=
  PySem.fillsNumberSlot_seq (id:="tuple.__mul__") (r:=some (.builtin "tuple.__rmul__")) F.slot_tuple_mul.lookup (by decide +kernel) F.slot_tuple_rmul.lookup (by decide +kernel)
theorem zli:seqRepeat? (.type "tuple")=pure (some (.builtin "tuple.__mul__")):=by
  unfold seqRepeat?
  rw [PySem.seqSlot_of (T:="tuple") (name:="__mul__") (id:="tuple.__mul__") F.slot_tuple_mul.lookup (by decide +kernel),PySem.seqSlot_of (T:="tuple") (name:="__rmul__") (id:="tuple.__rmul__") F.slot_tuple_rmul.lookup (by decide +kernel)]
  rfl
theorem ziq (a:Int) (t:Tok) (l:Addr) (items:Array Value) (n:Nat) (dd:Option Addr) (sl:Array (Option Value)) :
    Meets (Builtin.«int.__rmul__» ⟨[.int a t,.ref l],[]⟩) (fun _ R s=>s.heap.get? l=some {cls:=.type "tuple",dict:=dd,data:=.seq items n,slots:=sl} /\ R (.ok (.ret Value.notImplemented)) s):=
  .of_wp fun prog w A R s h=>by obtain ⟨hp,g,d,tk,os⟩:=s;obtain ⟨hl,h⟩:=h;wp_walk using wpAny_loadPart' hl;exact ⟨_,rfl,h⟩
theorem zng {x:Int} (h0:-(2 ^ 63)≤x) (h1:x < 2 ^ 63):(decide (x < -2 ^ 63)||decide (x≥2 ^ 63))=false:=by
  rw [decide_eq_false (by omega),decide_eq_false (by omega)];rfl
theorem zit (l:Addr) (items:Array Value) (n:Nat) (dd:Option Addr) (sl:Array (Option Value)) (x:Int) (u:Tok) (h0:-(2 ^ 63)≤x) (h1:x < 2 ^ 63) (hc:(items.isEmpty||x==1)=true) :
    Meets (Builtin.«tuple.__mul__» ⟨[.ref l,.int x u],[]⟩) (fun _ R s=>s.heap.get? l=some {cls:=.type "tuple",dict:=dd,data:=.seq items n,slots:=sl} /\ R (.ok (.ret (.ref l))) s):=
  .of_wp fun prog w A R s h=>by
    obtain ⟨hp,g,d,tk,os⟩:=s;obtain ⟨hl,h⟩:=h;have f1:=AutoSeq1.idx_int
    wp_walk using wpAny_loadPart' hl
    refine wpAny_ite_false (by rw [zng h0 h1];rfl) ?_
    wp_walk using wpAny_loadPart' hl
    exact ⟨_,rfl,h⟩
theorem ziu (l:Addr) (items:Array Value) (n:Nat) (dd:Option Addr) (sl:Array (Option Value)) (x:Int) (u:Tok) (h0:-(2 ^ 63)≤x) (h1:x < 2 ^ 63) (hc:(items.isEmpty||x==1)=false) (hc1:(decide (x≤0)||items.isEmpty)=true) :
    Meets (Builtin.«tuple.__mul__» ⟨[.ref l,.int x u],[]⟩) (fun _ R s=>s.heap.get? l=some {cls:=.type "tuple",dict:=dd,data:=.seq items n,slots:=sl} /\ R (.ok (.ret (.ref s.heap.objs.size))) {s with heap:=s.heap.push {cls:=Value.type "tuple",data:=Data.seq #[]},toks:=s.toks}):=
  .of_wp fun prog w A R s h=>by
    obtain ⟨hp,g,d,tk,os⟩:=s;obtain ⟨hl,h⟩:=h;have f1:=AutoSeq1.idx_int
    wp_walk using wpAny_loadPart' hl
    refine wpAny_ite_false (by rw [zng h0 h1];rfl) ?_
    wp_walk using wpAny_loadPart' hl
    exact ⟨_,rfl,h⟩
theorem ziv (l:Addr) (items:Array Value) (n:Nat) (dd:Option Addr) (sl:Array (Option Value)) (x:Int) (u:Tok) (h0:-(2 ^ 63)≤x) (h1:x < 2 ^ 63) (hc:(items.isEmpty||x==1)=false) (hc1:(decide (x≤0)||items.isEmpty)=false)
    (hs:(items.size:Int) * x≤16777216) (hs2:(List.foldl (fun x1 x2=>x1++x2) #[] (List.replicate x.toNat items)).size≤sizeLine) :
    Meets (Builtin.«tuple.__mul__» ⟨[.ref l,.int x u],[]⟩) (fun _ R s=>s.heap.get? l=some {cls:=.type "tuple",dict:=dd,data:=.seq items n,slots:=sl} /\ R (.ok (.ret (.ref s.heap.objs.size))) {s with heap:=s.heap.push {cls:=Value.type "tuple",data:=Data.seq (List.foldl (fun x1 x2=>x1++x2) #[] (List.replicate x.toNat items))},toks:=s.toks}):=
  .of_wp fun prog w A R s h=>by
    obtain ⟨hp,g,d,tk,os⟩:=s;obtain ⟨hl,h⟩:=h;have f1:=AutoSeq1.idx_int
    wp_walk using wpAny_loadPart' hl
    refine wpAny_ite_false (by rw [zng h0 h1];rfl) ?_
    wp_walk using wpAny_loadPart' hl
    refine wpAny_ite_false (decide_eq_false (by omega)) ?_
    wp_walk using wpAny_loadPart' hl
    refine wpAny_ite_false (decide_eq_false (by unfold Tuple.tupleTooMany;rw [sizeLine_eq];simp;omega)) ?_
    wp_walk using wpAny_loadPart' hl
    exact ⟨_,rfl,h⟩
section
variable {fa:Fa}{X:Cx}{μ:Mu}{H:Hp}{σ:L2.St}{pins:List (Addr×Obj)}{s:Shared}{M:Mem}
theorem zjo (its:List Value) (m:Nat):List.foldl (fun x1 x2=>x1++x2) #[] (List.replicate m its.toArray)=(List.replicate m its).flatten.toArray:=by
  have:=foldl_rep its m []
  rw [List.nil_append] at this
  exact this
theorem zs8:OpR X (binaryOp .Mult) (fun x y H Q=>∃ l k xs,x=.ref l /\ y=.int k /\ SqT X.K H l xs /\ -(2 ^ 63)≤k /\ k < 2 ^ 63 /\ xs.length * k.toNat≤sz /\
    ((List.replicate k.toNat xs).flatten=xs->Q (.ref l) H) /\ ∀ p,H p=none->Q (.ref p) (upd H p (.tup (List.replicate k.toNat xs).flatten))):=by
  intro pins s σ H x y v u Q I rx ry h
  obtain ⟨l,k,xs,rfl,rfl,hq,h1,h2,hz,q1,q2⟩:=h
  cases rx
  obtain ⟨t,rfl⟩:=ry
  obtain ⟨its,r,p,hzz⟩:=I.tuple hq
  have hl:=r.length
  obtain ⟨⟨cls,dd,data,sl⟩,ho,hc,n,hd⟩:=id p
  simp only at hc hd
  subst hc hd
  refine wpAny_binaryOp_repeat_ref (T:="tuple") (U:="int") (by decide) ⟨_,ho,rfl⟩ (fun s'=>typeIs_int s' k t) zhc F.fills_int_mul F.slot_int_rmul zli F.slot_int_index.lookup
    (call_meets F.slot_int_rmul (typeIs_int s k t) F.entry_int_rmul (F.args_int_rmul_2 _ _) (ziq k t l its.toArray n dd sl) ⟨ho,rfl,⟨_,ho,rfl⟩,?_⟩)
  have new:∀ (its':List Value),Vals (List.replicate k.toNat xs).flatten its'->EP X pins σ Q (.ref s.heap.objs.size) {s with heap:=s.heap.push {cls:=Value.type "tuple",data:=Data.seq its'.toArray}}:=fun its' r'=>by
    refine ⟨.ref s.heap.objs.size,_,I.laid (t':=s.toks) (o:=.tup (List.replicate k.toNat xs).flatten) (fun b ob q=>Heap.get?_push_of_some _ q) (Nat.le_refl _) ?_,rfl,q2 _ (I.hok.fresh (Nat.le_refl _))⟩
    exact ⟨by rw [len_rep,Nat.mul_comm,<- zc1];exact hz,_,r',IsTup.new _ _⟩
  by_cases c1:(its.toArray.isEmpty||k==1)=true
  · refine call_meets F.slot_tuple_mul ⟨_,ho,rfl⟩ F.entry_tuple_mul (F.args_tuple_mul_2 _ _) (zit l its.toArray n dd sl k t h1 h2 c1) ⟨ho,⟨.ref l,H,I,rfl,q1 ?_⟩⟩
    rcases Bool.or_eq_true_iff.mp c1 with z | z
    · have e:its=[]:=by simpa using z
      subst e
      have e2:xs=[]:=List.length_eq_zero_iff.mp hl
      subst e2
      simp
    · have e:k=1:=by simpa using z
      subst e
      simp
  · have c1':(its.toArray.isEmpty||k==1)=false:=by simpa using c1
    by_cases c2:(decide (k≤0)||its.toArray.isEmpty)=true
    · refine call_meets F.slot_tuple_mul ⟨_,ho,rfl⟩ F.entry_tuple_mul (F.args_tuple_mul_2 _ _) (ziu l its.toArray n dd sl k t h1 h2 c1' c2) ⟨ho,new [] ?_⟩
      have hk:k≤0:=by
        rcases Bool.or_eq_true_iff.mp c2 with z | z
        · simpa using z
        · rw [z] at c1';cases c1'
      have hk0:k.toNat=0:=by omega
      rw [hk0];exact .nil
    · have c2':(decide (k≤0)||its.toArray.isEmpty)=false:=by simpa using c2
      have hk:0 < k:=by
        have:=(Bool.or_eq_false_iff.mp c2').1
        simpa using this
      have hs:(its.toArray.size:Int) * k≤16777216:=by
        have e1:(its.toArray.size:Int) * k=((xs.length * k.toNat:Nat):Int):=by
          rw [List.size_toArray,<- hl,Int.natCast_mul,Int.toNat_of_nonneg (by omega)]
        rw [e1]
        have:xs.length * k.toNat≤16777216:=hz
        omega
      have hs2:(List.foldl (fun x1 x2=>x1++x2) #[] (List.replicate k.toNat its.toArray)).size≤sizeLine:=by
        rw [zjo,List.size_toArray,len_rep,Nat.mul_comm,<- hl,<- zc1];exact hz
      refine call_meets F.slot_tuple_mul ⟨_,ho,rfl⟩ F.entry_tuple_mul (F.args_tuple_mul_2 _ _) (ziv l its.toArray n dd sl k t h1 h2 c1' c2' hs hs2) ⟨ho,?_⟩
      rw [zjo]
      exact new _ (r.rep k.toNat)
theorem b_mul (m:Bool):OpR X (binaryOp .Mult) (zf6 fa X.K m .mul):=by
  intro pins s σ H x y v u Q I rx ry h
  obtain ⟨μ,M,dx,dy,hM,h1,h2,h⟩:=h
  have hi:∀ i j,dx=.int i->dy=.int j->wpAny (model X.prog X.w) X.A (binaryOp .Mult v u) (EP X pins σ Q) X.xe s:=fun i j e1 e2=>by
    subst e1 e2
    have h:okE (if (-(2 ^ 64) < i /\ i < 2 ^ 64) \/ (-(2 ^ 64) < j /\ j < 2 ^ 64) then .ok (.int (i * j)) M else .bad) (zbb fa X.K μ H Q):=h
    split at h
    · next c=>exact op_mul pins s σ H x y v u Q I rx ry ⟨i,j,h1,h2,c,za6 (v:=.int (i * j)) hM h rfl⟩
    · exact h.elim
  have ht:∀ i j,dx=.tup i->dy=.int j->wpAny (model X.prog X.w) X.A (binaryOp .Mult v u) (EP X pins σ Q) X.xe s:=fun i j e1 e2=>by
    subst e1 e2
    have h:okE (if i.length * j.toNat≤sz /\ -(2 ^ 63)≤j /\ j < 2 ^ 63 then .ok (.tup (List.replicate j.toNat i).flatten) M else .bad) (zbb fa X.K μ H Q):=h
    split at h
    · next c=>
      have h:zbb fa X.K μ H Q (.tup (List.replicate j.toNat i).flatten) M:=h
      obtain ⟨a,vs,e1,ha,ra⟩:=id h1
      refine zs8 pins s σ H x y v u Q I rx ry ⟨a,j,vs,e1,h2,ha,c.2.1,c.2.2,by rw [ra.length];exact c.1,fun z=>?_,zg3 hM (ra.rep j.toNat) h⟩
      refine za6 hM h ⟨a,vs,rfl,ha,?_⟩
      have:=ra.rep j.toNat
      rw [z] at this
      exact this
    · exact h.elim
  have hl:∀ j,dy=.int j->okE (match zew M dx with | some x=>if x.length * j.toNat≤sz /\ -(2 ^ 63)≤j /\ j < 2 ^ 63 then zbh m (List.replicate j.toNat x).flatten M else .bad | none=>.bad) (zbb fa X.K μ H Q)->
      wpAny (model X.prog X.w) X.A (binaryOp .Mult v u) (EP X pins σ Q) X.xe s:=fun j e1 h'=>by
    subst e1
    exact zqi (m:=m) I hM h1 h2 rx ry h'
  cases dy with
  | int j=>cases dx<;>first | exact hi _ _ rfl rfl | exact ht _ _ rfl rfl | exact hl _ rfl h
  | _=>cases dx<;>exact h.elim
def binOp:Bin->Operator
  | .add=>.Add | .sub=>.Sub | .mul=>.Mult | .fdiv=>.FloorDiv | .mod=>.Mod | .pow=>.Pow
theorem b_all (m:Bool):∀ o:Bin,OpR X (binaryOp (binOp o)) (zf6 fa X.K m o)
  | .add=>b_add m | .sub=>b_sub m | .mul=>b_mul m | .fdiv=>b_fdiv m | .mod=>b_mod m | .pow=>b_pow m
end
end LD
namespace LD
open PySem PySem.Spec PyProof.Rows L2
section
variable {fa:Fa}{X:Cx}{μ:Mu}{H:Hp}{σ:L2.St}{pins:List (Addr×Obj)}{s:Shared}{M:Mem}
theorem ix_imp {r r':R2} (h:IxR X r) (i:∀ x y H Q,r' x y H Q->r x y H Q):IxR X r':=fun value slice pins s σ H x y v u Q I rx ry q hs=>h value slice pins s σ H x y v u Q I rx ry (i x y H Q q) hs
def rIdx (fa:Fa) (K:PySem.W.Frag):R2:=fun x y H Q=>∃ μ M dx dy d,RelM fa K μ H M /\ Rep fa K μ H dx x /\ Rep fa K μ H dy y /\ zf7 dx dy M=some d /\ zbb fa K μ H Q d M
theorem zlw (n:Nat) (i:Int):LD.ixN n i=L2.ixN n i:=rfl
theorem i_all:IxR X (rIdx fa X.K):=ix_imp ix_seq fun x y H Q h=>by
  obtain ⟨μ,M,dx,dy,d,hM,h1,h2,e,q⟩:=h
  have gen:∀ i,dy=.int i->((zbr M dx).bind fun ds=>(LD.ixN ds.length i).bind fun j=>ds[j]?)=some d->rIx X.K x y H Q:=fun i e0 e'=>by
    subst e0
    clear e
    have e:=e'
    clear e'
    cases e1:zbr M dx with
    | none=>rw [e1] at e;cases e
    | some ds =>
      rw [e1,Option.bind_some] at e
      obtain ⟨a,vs,rfl,hq,r⟩:=zer hM h1 e1
      cases e2:LD.ixN ds.length i with
      | none=>rw [e2] at e;cases e
      | some j =>
        rw [e2,Option.bind_some] at e
        obtain ⟨v,hv,rv⟩:=r.get e
        have he:atI vs i=some v:=by
          unfold atI
          rw [r.length,<- zlw,e2];exact hv
        rcases hq with hq | hq
        · exact .inl ⟨a,vs,i,v,rfl,h2,hq,he,za6 hM q rv⟩
        · exact .inr (.inl ⟨a,vs,i,v,rfl,h2,hq,he,za6 hM q rv⟩)
  have str:∀ z i,dx=.str z->dy=.int i->rIx X.K x y H Q:=fun z i e1 e2=>by
    subst e1 e2
    have e:(if z.cps.size≤sz then (LD.ixN z.cps.size i).bind fun j=>(z.cps[j]?).map fun c=>D.str ⟨#[c]⟩ else none)=some d:=e
    split at e
    · next hz=>
      cases e2:LD.ixN z.cps.size i with
      | none=>rw [e2] at e;cases e
      | some j =>
        rw [e2,Option.bind_some] at e
        cases e3:z.cps[j]? with
        | none=>rw [e3] at e;cases e
        | some c =>
          rw [e3] at e
          have e4:D.str ⟨#[c]⟩=d:=Option.some.inj e
          subst e4
          refine .inr (.inr ⟨z,i,c,h1,h2,by rw [<- zc1];exact hz,?_,za6 hM q rfl⟩)
          unfold atI
          rw [show z.cps.toList.length=z.cps.size by simp,<- zlw,e2]
          simpa using e3
    · cases e
  cases dy with
  | int i=>cases dx<;>first | exact str _ _ rfl rfl | exact gen _ rfl e
  | _=>cases dx<;>cases (show (none:Option D)=some d from e)
theorem sl_imp {r r':V->Option Int->Option Int->Hp->VK->Prop} (h:SlR X r) (i:∀ x lo hi H Q,r' x lo hi H Q->r x lo hi H Q):SlR X r':=fun pins s σ H x v vl vu lo hi sl Q I rx hs pl pu q=>h pins s σ H x v vl vu lo hi sl Q I rx hs pl pu (i x lo hi H Q q)
def zhu:D->Option (Option Int)
  | .non=>some none
  | .int i=>some (some i)
  | _=>none
theorem zlh (n d:Nat) (x:D):LD.sIx n d x=(zhu x).map (HT.sIx n d):=by
  cases x<;>rfl
theorem zk8:SlR X (fun x lo hi H Q=>∃ a xs,x=.ref a /\ SqT X.K H a xs /\ (HT.sIx xs.length 0 lo=0 /\ HT.sIx xs.length xs.length hi=xs.length) /\ Q (.ref a) H):=by
  intro pins s σ H x v vl vu lo hi sl Q I rx hs pl pu h
  obtain ⟨a,xs,rfl,hx,hw,q⟩:=h
  cases rx
  obtain ⟨its,r,ht,hz⟩:=I.tuple hx
  refine ⟨"tuple",_,PyProof.Rows.slot_tuple_getitem.lookup,ht.typeIs,?_⟩
  have hlen:its.toArray.size=xs.length:=by rw [List.size_toArray];exact r.length.symm
  rw [<- hlen] at hw
  obtain ⟨os,hos,hcs,hds⟩:=id hs
  have hTs:s.TypeIs (.ref sl) "slice":=⟨os,hos,hcs⟩
  unfold getItem
  try with_reducible refine wpAny_holding ?_
  first | refine wpAny_bind (wpAny_pure ?_) | skip
  refine wpAny_bind (wpAny_sequenceKey ht.typeIs (by decide) ?_)
  refine wpAny_bind (wpAny_callSpecial?_slot (name:=Str.ofString "__getitem__") ht.typeIs PyProof.Rows.slot_tuple_getitem
    (wpAny_call_entry PyProof.Rows.slot_tuple_getitem ht.typeIs entry_tuple_getitem ?_ (args_tuple_getitem _ _)))
  show wpAny _ _ (Builtin.Tuple.tupleItemsOf (.ref a) >>= _) _ _ s
  refine wpAny_bind (tupleItemsOf_ ht ?_)
  refine wpAny_bind (wpAny_typeOf hTs ?_)
  rw [if_pos (by decide)]
  refine wpAny_bind (HT.zeq hs pl pu ?_)
  have hyes:(((HT.sIx its.toArray.size 0 lo:Nat):Int)==0&&(1:Int)==1&&(HT.sIx its.toArray.size its.toArray.size hi - HT.sIx its.toArray.size 0 lo)==its.toArray.size)=true:=by
    rw [hw.1,hw.2];simp
  show wpAny _ _ (if (((HT.sIx its.toArray.size 0 lo:Nat):Int)==0&&(1:Int)==1&&(HT.sIx its.toArray.size its.toArray.size hi - HT.sIx its.toArray.size 0 lo)==its.toArray.size)=true then _ else _) _ _ s
  rw [if_pos hyes]
  refine wpAny_bind (m:=Builtin.Tuple.tupleIsExact (.ref a)) ?_
  unfold Builtin.Tuple.tupleIsExact
  refine wpAny_bind (wpAny_typeOf ht.typeIs ?_)
  refine wpAny_pure ?_
  rw [if_pos (by decide)]
  exact wpAny_bind (wpAny_rule (wpAny_pure ⟨_,rfl,wpAny_pure ⟨.ref a,H,I,rfl,q⟩⟩))
def rSlc (fa:Fa) (K:PySem.W.Frag) (m:Bool):V->Option Int->Option Int->Hp->VK->Prop:=fun x lo hi H Q=>∃ μ M dx dl dh,RelM fa K μ H M /\ Rep fa K μ H dx x /\ zhu dl=some lo /\ zhu dh=some hi /\ okE (slcD m dx dl dh M) (zbb fa K μ H Q)
theorem zsn (m:Bool):SlR X (rSlc fa X.K m):=by
  refine sl_imp (zso.or (sl_tup.or zk8)) fun x lo hi H Q h=>?_
  obtain ⟨μ,M,dx,dl,dh,hM,h1,e1,e2,h⟩:=h
  have gen:okE (match rdD M dx with
    | some xs => match LD.sIx xs.length 0 dl, LD.sIx xs.length xs.length dh with
      | some l,some h=>zbh m (cut xs l h) M
      | _,_=>.bad
    | none=>.bad) (zbb fa X.K μ H Q)->rSlL X.K x lo hi H Q:=fun h=>by
    cases e:rdD M dx with
    | none=>rw [e] at h;exact h.elim
    | some xs =>
      rw [e] at h
      simp only [zlh,e1,e2,Option.map_some] at h
      obtain ⟨a,vs,rfl,hq,r⟩:=zbl hM h1 e
      have hl:=r.length
      obtain ⟨_,k⟩:=zeo hM ((r.drop (HT.sIx xs.length 0 lo)).take (HT.sIx xs.length xs.length hi - HT.sIx xs.length 0 lo)) h
      refine ⟨a,vs,rfl,hq,?_⟩
      unfold zge
      rw [hl]
      exact k
  have tup:∀ xs,dx=.tup xs->rSlT X.K x lo hi H Q \/ ∃ a xs,x=.ref a /\ SqT X.K H a xs /\ (HT.sIx xs.length 0 lo=0 /\ HT.sIx xs.length xs.length hi=xs.length) /\ Q (.ref a) H:=fun xs e=>by
    subst e
    have h:okE (match LD.sIx xs.length 0 dl,LD.sIx xs.length xs.length dh with
      | some l,some h=>.ok (.tup (cut xs l h)) M
      | _,_=>.bad) (zbb fa X.K μ H Q):=h
    simp only [zlh,e1,e2,Option.map_some] at h
    have h:zbb fa X.K μ H Q (.tup (cut xs (HT.sIx xs.length 0 lo) (HT.sIx xs.length xs.length hi))) M:=h
    obtain ⟨a,vs,rfl,hq,r⟩:=h1
    have hl:=r.length
    by_cases hw:HT.sIx vs.length 0 lo=0 /\ HT.sIx vs.length vs.length hi=vs.length
    · refine .inr ⟨a,vs,rfl,hq,hw,?_⟩
      rw [hl] at hw
      have e3:cut xs (HT.sIx xs.length 0 lo) (HT.sIx xs.length xs.length hi)=xs:=by rw [hw.1,hw.2];simp [cut]
      rw [e3] at h
      exact za6 hM h ⟨a,vs,rfl,hq,r⟩
    · refine .inl ⟨a,vs,rfl,hq,hw,?_⟩
      have k:=zg3 hM ((r.drop (HT.sIx xs.length 0 lo)).take (HT.sIx xs.length xs.length hi - HT.sIx xs.length 0 lo)) h
      unfold zge
      rw [hl]
      exact k
  cases dx<;>first | exact .inr (tup _ rfl) | exact .inl (gen h)
def rBlt (fa:Fa) (K:PySem.W.Frag) (f:Blt):List V->Hp->VK->Prop:=fun vs H Q=>∃ μ M ds,RelM fa K μ H M /\ zat fa K μ H ds vs /\ okE (zdg f ds M) (zbb fa K μ H Q)
theorem repL1 {d:D}{vs:List V}{K:PySem.W.Frag} (h:zat fa K μ H [d] vs):∃ v,vs=[v] /\ Rep fa K μ H d v:=by
  obtain ⟨v,r,rfl,h1,h2⟩:=h
  obtain rfl:r=[]:=h2
  exact ⟨v,rfl,h1⟩
theorem f_len:zcn X (.builtin "len") (rBlt fa X.K .len):=zl7 (zl6.or zl5) fun vs H Q h=>by
  obtain ⟨μ,M,ds,hM,r,h⟩:=h
  match ds,r,h with
  | [],_,h=>exact h.elim
  | d::_::_,_,h=>cases d<;>exact h.elim
  | [d], r, h =>
    obtain ⟨v,rfl,hv⟩:=repL1 r
    have gen:okE (match zbr M d with | some xs=>.ok (.int xs.length) M | none=>.bad) (zbb fa X.K μ H Q)->∃ p ys,[v]=[.ref p] /\ (SqL X.K H p ys \/ SqT X.K H p ys) /\ Q (.int ys.length) H:=fun h=>by
      cases e:zbr M d with
      | none=>rw [e] at h;exact h.elim
      | some xs =>
        rw [e] at h
        obtain ⟨a,vs,rfl,hq,r⟩:=zer hM hv e
        refine ⟨a,vs,rfl,hq,?_⟩
        rw [r.length]
        exact za6 (v:=.int xs.length) hM h rfl
    have str:∀ x,d=.str x->∃ z,[v]=[V.str z] /\ z.length≤sizeLine /\ Q (.int z.length) H:=fun x e=>by
      subst e
      have h:okE (if x.cps.size≤sz then .ok (.int x.cps.size) M else .bad) (zbb fa X.K μ H Q):=h
      split at h
      · next c=>exact ⟨x,by rw [show v=.str x from hv],by rw [<- zc1];exact c,za6 (v:=.int x.cps.size) hM h rfl⟩
      · exact h.elim
    cases d<;>first | exact .inr (str _ rfl) | exact .inl (gen h)
theorem f_list (m:Bool):zcn X (.type "list") (rBlt fa X.K (.list m)):=zl7 zl4 fun vs H Q h=>by
  obtain ⟨μ,M,ds,hM,r,h⟩:=h
  match ds,r,h with
  | [],_,h=>exact h.elim
  | _::_::_,_,h=>exact h.elim
  | [d], r, h =>
    obtain ⟨v,rfl,hv⟩:=repL1 r
    have h:okE (match zbr M d with | some xs=>zbh m xs M | none=>.bad) (zbb fa X.K μ H Q):=h
    cases e:zbr M d with
    | none=>rw [e] at h;exact h.elim
    | some xs =>
      rw [e] at h
      obtain ⟨a,vs,rfl,hq,r⟩:=zer hM hv e
      obtain ⟨_,k⟩:=zeo hM r h
      exact ⟨a,vs,rfl,hq,k⟩
end
end LD
namespace LD
open PySem PySem.Spec PyProof.Rows L2
section
variable {fa:Fa}{X:Cx}{μ:Mu}{H:Hp}{σ:L2.St}{pins:List (Addr×Obj)}{s:Shared}{M:Mem}
theorem truV {d:D}{v:V}{k:Bool} (hM:RelM fa X.K μ H M) (h:Rep fa X.K μ H d v) (e:zf4 M d=some k):TruV X.K v H k:=by
  cases d with
  | non=>obtain rfl:v=.non:=h;exact (Option.some.inj e).symm
  | bl b=>obtain rfl:v=.bl b:=h;exact (Option.some.inj e).symm
  | int i=>obtain rfl:v=.int i:=h;exact (Option.some.inj e).symm
  | str x =>
    obtain rfl:v=.str x:=h
    have e:(if x.cps.size≤sz then some (x.cps.size != 0) else none)=some k:=e
    split at e
    · next c=>
      refine ⟨by rw [<- zc1];exact c,?_⟩
      rw [<- Option.some.inj e]
      show (x.cps.size != 0)=((x.cps.size:Int) != 0)
      rw [Bool.eq_iff_iff];simp
    · cases e
  | tup ds =>
    obtain ⟨a,vs,rfl,hq,r⟩:=h
    refine .inr (.inl ⟨vs,hq,?_⟩)
    rw [<- Option.some.inj e]
    have:=r.length
    cases vs<;>cases ds<;>simp_all
  | lst ds =>
    obtain ⟨a,vs,rfl,hq,r⟩:=zbl (ds:=ds) hM h rfl
    refine .inl ⟨vs,hq,?_⟩
    rw [<- Option.some.inj e]
    have:=r.length
    cases vs<;>cases ds<;>simp_all
  | frz ds =>
    obtain ⟨a,vs,rfl,hq,r⟩:=zbl (ds:=ds) hM h rfl
    refine .inl ⟨vs,hq,?_⟩
    rw [<- Option.some.inj e]
    have:=r.length
    cases vs<;>cases ds<;>simp_all
  | cell c =>
    have e:(M[c]?).map (fun ds=>!ds.isEmpty)=some k:=e
    cases e1:M[c]? with
    | none=>rw [e1] at e;cases e
    | some ds =>
      rw [e1] at e
      obtain ⟨a,vs,rfl,hq,r⟩:=zbl (ds:=ds) hM h e1
      refine .inl ⟨vs,hq,?_⟩
      rw [<- Option.some.inj e]
      have:=r.length
      cases vs<;>cases ds<;>simp_all
  | fn f=>cases e
  | exc y p=>cases e
theorem zjp:∀ {ds:List D}{bs:List Bool}{vs:List V}{us:List Value},boolsOf ds=some bs->zat fa X.K μ H ds vs->Vals vs us->PyProof.Rows.LSm.BoolsAre us bs:=by
  intro ds
  induction ds with
  | nil =>
    intro bs vs us e h r
    obtain rfl:vs=[]:=h
    cases r;cases e
    exact .nil
  | cons d ds ih =>
    intro bs vs us e h r
    obtain ⟨v,vr,rfl,h1,h2⟩:=h
    cases r with
    | cons r1 r2 =>
      cases d with
      | bl b =>
        have e:(boolsOf ds).map (b::·)=some bs:=e
        cases e1:boolsOf ds with
        | none=>rw [e1] at e;cases e
        | some cs =>
          rw [e1] at e
          have e2:b::cs=bs:=Option.some.inj e
          subst e2
          obtain rfl:v=.bl b:=h1
          obtain rfl:_=Value.bool b:=r1
          exact .cons b (ih e1 h2 r2)
      | _=>cases e
def tyName:Ty->String
  | .int=>"int" | .bool=>"bool" | .str=>"str" | .tuple=>"tuple" | .list=>"list" | .own _=>""
def tyD:D->String
  | .non=>"NoneType" | .bl _=>"bool" | .int _=>"int" | .str _=>"str" | .tup _=>"tuple" | _=>"list"
theorem ty_of (t:Ty) (d:D) (b:Bool) (ht:∀ c,t≠.own c) (e:zfu t d=some b):PySem.W.kitOne X.K (.type (tyD d)) (.type (tyName t))=some b:=by
  cases t with
  | own c=>exact absurd rfl (ht c)
  | _=>cases d<;>first | (cases (show (none:Option Bool)=some b from e)) | (have e':=Option.some.inj e;subst e';(first | rfl | decide +kernel))
theorem zp7 {d:D}{v:V}{b:Bool}{t:Ty} (hM:RelM fa X.K μ H M) (h:Rep fa X.K μ H d v) (e:zfu t d=some b) (I:Inv X pins σ H s) {u c:Value} (r:RelV v u) {Q:Value->Shared->Prop}
    (ek:PySem.W.kitOne X.K (.type (tyD d)) c=some b) (q:∀ tk,Q (.bool b) {s with toks:=tk}):wpAny (model X.prog X.w) X.A (call (.builtin "isinstance") [u,c]) Q X.xe s:=by
  cases d with
  | non=>obtain rfl:v=.non:=h;exact ze3 I r .non ek q
  | bl x=>obtain rfl:v=.bl x:=h;exact ze3 I r (.bl x) ek q
  | int x=>obtain rfl:v=.int x:=h;exact ze3 I r (.int x) ek q
  | str x=>obtain rfl:v=.str x:=h;exact ze3 I r (.str x) ek q
  | tup ds =>
    obtain ⟨a,vs,rfl,hq,_⟩:=h
    obtain rfl:u=Value.ref a:=r
    obtain ⟨its,rv,⟨o,h1,h2,_⟩,_⟩:=I.tuple hq
    exact PySem.W.kia_one PySem.W.kitx_tuple I.kIn ⟨o,h1,h2⟩ ek (fun z=>nomatch z) q
  | lst ds =>
    obtain ⟨a,vs,rfl,hq,_⟩:=zbl (ds:=ds) hM h rfl
    obtain rfl:u=Value.ref a:=r
    obtain ⟨its,rv,⟨o,n,h1,h2,_⟩,_⟩:=I.list hq
    exact PySem.W.kia_one PySem.W.kitx_list I.kIn ⟨o,h1,h2⟩ ek (fun z=>nomatch z) q
  | frz ds =>
    obtain ⟨a,vs,rfl,hq,_⟩:=zbl (ds:=ds) hM h rfl
    obtain rfl:u=Value.ref a:=r
    obtain ⟨its,rv,⟨o,n,h1,h2,_⟩,_⟩:=I.list hq
    exact PySem.W.kia_one PySem.W.kitx_list I.kIn ⟨o,h1,h2⟩ ek (fun z=>nomatch z) q
  | cell k =>
    obtain ⟨a,rfl,hk⟩:=h
    obtain ⟨ds,vs,_,hq,_⟩:=hM.mu_lt hk
    obtain rfl:u=Value.ref a:=r
    obtain ⟨its,rv,⟨o,n,h1,h2,_⟩,_⟩:=I.list (SqL.of hq)
    exact PySem.W.kia_one PySem.W.kitx_list I.kIn ⟨o,h1,h2⟩ ek (fun z=>nomatch z) q
  | fn f=>cases e
  | exc y p=>cases e
def rInst (fa:Fa) (K:PySem.W.Frag) (t:Ty):List V->Hp->VK->Prop:=fun vs H Q=>∃ μ M d v b,vs=[v,.ty (tyName t)] /\ RelM fa K μ H M /\ Rep fa K μ H d v /\ zfu t d=some b /\ Q (.bl b) H
theorem f_inst (t:Ty) (ht:∀ c,t≠.own c):zcn X (.builtin "isinstance") (rInst fa X.K t):=by
  intro pins s σ H xs us Q I r h
  obtain ⟨μ,M,d,v,b,rfl,hM,hv,e,q⟩:=h
  obtain ⟨u,w,rfl,r1,r2⟩:=vals2 r
  obtain rfl:w=Value.type (tyName t):=r2
  exact zp7 hM hv e I r1 (ty_of t d b ht e) fun tk=>⟨.bl b,H,I.tok _,rfl,q⟩
end
end LD
namespace LD
open PySem PySem.Spec PyProof.Rows L2
section
variable {fa:Fa}{X:Cx}
abbrev DE (fa:Fa) (X:Cx) (e:PySem.Expr) (g:Env->Mem->Res D):Prop:=PE X e (tE fa X.K g)
abbrev DT (fa:Fa) (X:Cx) (e:PySem.Expr) (g:Env->Mem->Res Bool):Prop:=PT X e (tT fa X.K g)
abbrev DW (fa:Fa) (X:Cx) (e:PySem.Expr) (g:Env->Mem->Res Bool):Prop:=PW X e (tT fa X.K g)
abbrev DA (fa:Fa) (X:Cx) (es:List PySem.Expr) (g:Env->Mem->Res (List D)):Prop:=PA X es (tA fa X.K g)
abbrev DS (fa:Fa) (X:Cx) (st:PySem.Stmt) (g:Env->Mem->Res Fl):Prop:=PS X st (tF fa X g)
abbrev DSs (fa:Fa) (X:Cx) (st:List PySem.Stmt) (g:Env->Mem->Res Fl):Prop:=PSs X st (tF fa X g)
variable {a b d:PySem.Expr}{ga gb gd:Env->Mem->Res D}{pos:Pos}
theorem d_var {i:Nat}{x:Str} (hN:X.N[i]?=some x) (hv:Vis X.env.scope x) (hd:(x==("__debug__":Str))=false) (hcd:(x==("__classdict__":Str))=false) :
    DE fa X (.Name x pos) (fun ρ M=>ofO M (ρ[i]?.getD none)):=zcb (zht hN hv hd hcd) fun σ H Q ⟨μ,ρ,M,hE,hM,h⟩=>by
  obtain ⟨d,e,w⟩:=zis h
  have e':ρ[i]?=some (some d):=by
    cases q:ρ[i]? with
    | none=>rw [q] at e;cases e
    | some o=>rw [q] at e;simp at e;rw [e]
  obtain ⟨v,h1,h2⟩:=hE.at' i d e'
  exact ⟨v,h1,za6 hM w h2⟩
theorem zgt {e:PySem.Expr}{dc:D}{v:V} (h:PE X e (tC v)) (r:∀ μ H,Rep fa X.K μ H dc v):DE fa X e (fun _ M=>.ok dc M):=zcb h fun σ H Q ⟨μ,ρ,M,hE,hM,h⟩=>za6 hM h (r μ H)
theorem d_int {i:Int}{j:Nat}:DE fa X (.Constant (.int i) j pos) (fun _ M=>.ok (.int i) M):=zgt (v:=.int i) pe_int fun _ _=>rfl
theorem d_bl {i:Bool}{j:Nat}:DE fa X (.Constant (.bool i) j pos) (fun _ M=>.ok (.bl i) M):=zgt (v:=.bl i) znf fun _ _=>rfl
theorem d_str {i:Str}{j:Nat}:DE fa X (.Constant (.str i) j pos) (fun _ M=>.ok (.str i) M):=zgt (v:=.str i) zo4 fun _ _=>rfl
theorem d_non {j:Nat}:DE fa X (.Constant .none j pos) (fun _ M=>.ok .non M):=zgt (v:=.non) pe_non fun _ _=>rfl
theorem t2 {μ:Mu}{H:Hp}{σ:L2.St}{ρ:Env}{M:Mem}{β:Type}{f:D->D->Mem->Res β}{P:β->Mem->Prop}{R:V->V->Hp->Prop} (hE:za4 fa X.K μ H σ ρ) (hM:RelM fa X.K μ H M)
    (h:okE ((ga ρ M).bind fun x M=>(gb ρ M).bind fun y M=>f x y M) P)
    (k:∀ x y M2 v u H2 μ2,Ext μ H μ2 H2->za4 fa X.K μ2 H2 σ ρ->RelM fa X.K μ2 H2 M2->Rep fa X.K μ2 H2 x v->Rep fa X.K μ2 H2 y u->okE (f x y M2) P->R v u H2) :
    tE fa X.K ga σ H fun v H1=>tE fa X.K gb σ H1 fun u H2=>R v u H2:=
  t1 hE hM h fun x M1 v H1 μ1 x1 hE1 hM1 r1 h1=>t1 hE1 hM1 h1 fun y M2 u H2 μ2 x2 hE2 hM2 r2 h2=>k x y M2 v u H2 μ2 (x1.trans x2) hE2 hM2 (r1.ext x2) r2 h2
theorem d_bin (m:Bool) (o:Bin) (ha:DE fa X a ga) (hb:DE fa X b gb):DE fa X (.BinOp a (binOp o) b pos) (fun ρ M=>(ga ρ M).bind fun x M=>(gb ρ M).bind fun y M=>zdc m o x y M):=
  zcb (pe_op (b_all m o) ha hb) fun σ H Q ⟨μ,ρ,M,hE,hM,h⟩=>t2 hE hM h fun x y M2 v u H2 μ2 x2 hE2 hM2 r1 r2 h2=>⟨μ2,M2,x,y,hM2,r1,r2,okW h2 x2⟩
theorem zlo {r:Option Bool}{M:Mem}{P:D->Mem->Prop} (h:okE ((ofO M r).bind fun b M=>.ok (.bl b) M) P):∃ b,r=some b /\ P (.bl b) M:=by
  obtain ⟨b,M1,e,q⟩:=za5 h
  cases r with
  | none=>cases e
  | some b'=>cases e;exact ⟨_,rfl,q⟩
theorem d_cmp (hu:Rm X) (o:Cmp) (ha:DE fa X a ga) (hb:DE fa X b gb) (hm:behindInMarks (zdt o) b=false) :
    DE fa X (.Compare a [zdt o] [b] pos) (fun ρ M=>(ga ρ M).bind fun x M=>(gb ρ M).bind fun y M=>(ofO M (zcv o x y M)).bind fun b M=>.ok (.bl b) M):=
  zcb (zs6 (c_all hu o) ha hb hm) fun σ H Q ⟨μ,ρ,M,hE,hM,h⟩=>t2 hE hM h fun x y M2 v u H2 μ2 x2 hE2 hM2 r1 r2 h2=>by
    obtain ⟨b,e,q⟩:=zlo h2
    exact ⟨μ2,M2,x,y,b,hM2,r1,r2,e,za6 (v:=.bl b) hM2 (q.ext x2) rfl⟩
theorem dt_cmp (hu:Rm X) (o:Cmp) (ha:DE fa X a ga) (hb:DE fa X b gb) (hm:behindInMarks (zdt o) b=false) :
    DT fa X (.Compare a [zdt o] [b] pos) (fun ρ M=>((ga ρ M).bind fun x M=>(gb ρ M).bind fun y M=>(ofO M (zcv o x y M)).bind fun b M=>.ok (.bl b) M).bind fun x M=>ofO M (zf4 M x)):=
  zlk (zsx (c_all hu o) ha hb hm) fun σ H Q ⟨μ,ρ,M,hE,hM,h⟩=>by
    obtain ⟨z,M3,e,q⟩:=za5 h
    have h':okE ((ga ρ M).bind fun x M=>(gb ρ M).bind fun y M=>(ofO M (zcv o x y M)).bind fun b M=>.ok (.bl b) M) (fun d M=>d=z /\ M=M3):=by rw [e];exact ⟨rfl,rfl⟩
    refine t2 hE hM h' fun x y M2 v u H2 μ2 x2 hE2 hM2 r1 r2 h2=>?_
    obtain ⟨b,e1,e2,e3⟩:=zlo h2
    subst e2 e3
    exact ⟨μ2,M2,x,y,b,hM2,r1,r2,e1,b,rfl,q H2 μ2 x2 hM2⟩
theorem zic {α β:Type}{r:Res α}{f:α->Mem->Res β}{x:β}{M:Mem} (h:r.bind f=.ok x M):∃ a M1,r=.ok a M1 /\ f a M1=.ok x M:=by
  cases r with
  | ok a M1=>exact ⟨a,M1,rfl,h⟩
  | err=>cases h
  | bad=>cases h
theorem d_and {rest:List PySem.Expr} (ha:DE fa X a ga) (hb:DE fa X (.BoolOp .And (b::rest) pos) gb):DE fa X (.BoolOp .And (a::b::rest) pos) (fun ρ M=>(ga ρ M).bind fun x M=>match x with
    | .bl true=>gb ρ M
    | .bl false=>.ok (.bl false) M
    | _=>.bad):=
  zcb (pe_and ha hb) fun σ H Q ⟨μ,ρ,M,hE,hM,h⟩=>t1 hE hM h fun x M1 v H1 μ1 x1 hE1 hM1 r1 h1=>by
    cases x with
    | bl k =>
      refine ⟨k,r1,?_⟩
      cases k with
      | true=>exact ⟨μ1,ρ,M1,hE1,hM1,okW h1 x1⟩
      | false=>exact za6 (v:=.bl false) hM1 (zbb.ext h1 x1) rfl
    | _=>exact h1.elim
theorem d_one {op:PySem.BoolOp} (ha:DE fa X a ga):DE fa X (.BoolOp op [a] pos) ga:=pe_one ha
variable {ta tb:Env->Mem->Res Bool}
theorem dw_or1 (ha:DT fa X a ta):DW fa X (.BoolOp .Or [a] pos) ta:=pw_or1 ha
theorem okT {b':Res Bool}{μ μ':Mu}{H H':Hp}{Q:Bool->Hp->Prop} (x:Ext μ H μ' H') (h:okE b' fun b M'=>∀ H'' μ'',Ext μ H μ'' H''->RelM fa X.K μ'' H'' M'->Q b H''):okE b' fun b M'=>∀ H'' μ'',Ext μ' H' μ'' H''->RelM fa X.K μ'' H'' M'->Q b H'':=
  zbv h fun b M q H'' μ'' y m=>q H'' μ'' (x.trans y) m
theorem dw_or {rest:List PySem.Expr} (ha:DT fa X a ta) (hb:DW fa X (.BoolOp .Or (b::rest) pos) tb):DW fa X (.BoolOp .Or (a::b::rest) pos) (fun ρ M=>(ta ρ M).bind fun k M=>if k then .ok true M else tb ρ M):=
  pw_imp (pw_or ha hb) fun σ H Q ⟨μ,ρ,M,hE,hM,h⟩=>tT1 hE hM h fun k M1 H1 μ1 x1 hE1 hM1 h1=>by
    cases k with
    | true=>exact h1 H1 μ1 x1 hM1
    | false=>exact ⟨μ1,ρ,M1,hE1,hM1,okT x1 h1⟩
theorem dt_not (ha:DT fa X a ta):DT fa X (.UnaryOp .Not a pos) (fun ρ M=>(ta ρ M).bind fun k M=>.ok (!k) M):=
  zlk (pt_not ha) fun σ H Q ⟨μ,ρ,M,hE,hM,h⟩=>tT1 hE hM h fun k M1 H1 μ1 x1 hE1 hM1 h1=>h1 H1 μ1 x1 hM1
theorem zq7 (ha:DE fa X a ga) (he:∀ whole,isTrue a X.env whole=(do let v <- whole;standAt a.pos;holding [v] (truthy v))):DT fa X a (fun ρ M=>(ga ρ M).bind fun x M=>ofO M (zf4 M x)):=
  zlk (zqm ha he) fun σ H Q ⟨μ,ρ,M,hE,hM,h⟩=>t1 hE hM h fun x M1 v H1 μ1 x1 hE1 hM1 r1 h1=>by
    obtain ⟨k,e,q⟩:=zis h1
    exact ⟨k,truV hM1 r1 e,q H1 μ1 x1 hM1⟩
theorem d_idx (ha:DE fa X a ga) (hb:DE fa X b gb) (hs:zgw b):DE fa X (.Subscript a b pos) (fun ρ M=>(ga ρ M).bind fun x M=>(gb ρ M).bind fun y M=>ofO M (zf7 x y M)):=
  zcb (pe_ix i_all ha hb hs) fun σ H Q ⟨μ,ρ,M,hE,hM,h⟩=>t2 hE hM h fun x y M2 v u H2 μ2 x2 hE2 hM2 r1 r2 h2=>by
    obtain ⟨d,e,q⟩:=zis h2
    exact ⟨μ2,M2,x,y,d,hM2,r1,r2,e,q.ext x2⟩
def DO (fa:Fa) (X:Cx) (e:Option PySem.Expr) (hp:Bool) (g:Env->Mem->Res D):Prop:=PO X e fun σ H Q=>∃ μ ρ M,za4 fa X.K μ H σ ρ /\ RelM fa X.K μ H M /\ okE (g ρ M) fun d M'=>∃ o,zc5 hp d=true /\ zhu d=some o /\ ∀ H' μ',Ext μ H μ' H'->RelM fa X.K μ' H' M'->Q o H'
theorem ztt:DO fa X none false (fun _ M=>.ok .non M):=fun pins s σ H Q I ⟨μ,ρ,M,hE,hM,o,_,e,k⟩=>by
  cases e
  exact zs3 pins s σ H Q I (k H μ .refl hM)
theorem zts (ha:DE fa X a ga):DO fa X (some a) true ga:=fun pins s σ H Q I ⟨μ,ρ,M,hE,hM,h⟩=>zs2 ha pins s σ H Q I ⟨μ,ρ,M,hE,hM,zbv h fun d M' ⟨o,p,e,k⟩ v H' μ' x m r=>by
  cases d with
  | int i=>cases e;exact ⟨i,r,k H' μ' x m⟩
  | _=>cases p⟩
theorem part_of {hp:Bool}{d:D} (h:zc5 hp d=true):∃ o,zhu d=some o:=by
  cases hp<;>cases d<;>first | exact ⟨_,rfl⟩ | cases h
theorem d_slc (m hl hh:Bool) {lo hi:Option PySem.Expr}{gl gh:Env->Mem->Res D}{p2:Pos} (ha:DE fa X a ga) (hlo:DO fa X lo hl gl) (hhi:DO fa X hi hh gh):DE fa X (.Subscript a (.Slice lo hi none p2) pos)
    (fun ρ M=>(ga ρ M).bind fun x M=>(gl ρ M).bind fun l M=>(gh ρ M).bind fun h M=>if zc5 hl l&&zc5 hh h then slcD m x l h M else .bad):=
  zcb (zqp (zsn (fa:=fa) m) ha hlo hhi) fun σ H Q ⟨μ,ρ,M,hE,hM,h⟩=>t1 hE hM h fun x M1 v H1 μ1 x1 hE1 hM1 r1 h1=>by
    obtain ⟨l,M2,e2,h2⟩:=za5 h1
    obtain ⟨u,M3,e3,h3⟩:=za5 h2
    split at h3
    · next c=>
      rw [Bool.and_eq_true] at c
      obtain ⟨ol,el⟩:=part_of c.1
      obtain ⟨ou,eu⟩:=part_of c.2
      refine ⟨μ1,ρ,M1,hE1,hM1,?_⟩
      rw [e2]
      refine ⟨ol,c.1,el,fun H2 μ2 x2 hM2=>⟨μ2,ρ,M2,hE1.ext x2,hM2,?_⟩⟩
      rw [e3]
      exact ⟨ou,c.2,eu,fun H3 μ3 x3 hM3=>⟨μ3,M3,x,l,u,hM3,(r1.ext x2).ext x3,el,eu,okW h3 ((x1.trans x2).trans x3)⟩⟩
    · exact h3.elim
theorem da_nil:DA fa X [] (fun _ M=>.ok [] M):=zo6 zc6 fun σ H Q ⟨μ,ρ,M,hE,hM,h⟩=>h [] H μ .refl hM rfl
theorem zt0 {es:List PySem.Expr}{gs:Env->Mem->Res (List D)} (ha:DE fa X a ga) (hs:DA fa X es gs) (h0:starEach (a::es) X.env=(false,eval a X.env)::starEach es X.env) :
    DA fa X (a::es) (fun ρ M=>(ga ρ M).bind fun x M=>(gs ρ M).bind fun xs M=>.ok (x::xs) M):=
  zo6 (zbu ha hs h0) fun σ H Q ⟨μ,ρ,M,hE,hM,h⟩=>t1 hE hM h fun x M1 v H1 μ1 x1 hE1 hM1 r1 h1=>tA1 hE1 hM1 h1 fun xs M2 vs H2 μ2 x2 hE2 hM2 r2 h2=>h2 (v::vs) H2 μ2 (x1.trans x2) hM2 ⟨v,vs,rfl,r1.ext x2,r2⟩
theorem d_lst (m:Bool) {es:List PySem.Expr}{gs:Env->Mem->Res (List D)} (hs:DA fa X es gs):DE fa X (.List es pos) (fun ρ M=>(gs ρ M).bind (zbh m)):=
  zcb (pe_lst hs) fun σ H Q ⟨μ,ρ,M,hE,hM,h⟩=>tA1 hE hM h fun xs M1 vs H1 μ1 x1 hE1 hM1 r1 h1=>by
    obtain ⟨c,k⟩:=zeo hM1 r1 (okW h1 x1)
    exact ⟨by rw [r1.length,<- zc1];exact c,k⟩
end
end LD
namespace LD
open PySem PySem.Spec PyProof.Rows L2
theorem zgd (o:Obj) (f:Array Value->Array Value):(o.mapFields f).dict=o.dict:=by
  obtain ⟨c,d,dt,sl⟩:=o
  cases dt<;>rfl
section
variable {P:Program}{w:World}{M:Model}{A:Around}{E:Value->Shared->Prop}{base:Heap}{env:PySem.Env}{outer:List PySem.Env}{L a C:Addr}{dx:Option Addr}{New:Addr->Prop}{H:Hp}{s:Shared}{Q:Unit->Shared->Prop}
theorem zmq {oe:Obj}{vs:Array Value}{head:Value}{had:Bool} (hfr:A.frames=some (env::outer)) (hl:s.heap.FunFrames base (env::outer)) (hf:env.frame=some L)
    (he:s.heap.get? a=some oe) (hd:oe.data=.fields vs) (hsz:1 < vs.size)
    (h:∀ h' T oT ts,(∀ b o,b∉frs (env::outer)->b≠a->s.heap.get? b=some o->h'.get? b=some o)->(∀ b o,b≠a->s.heap.get? b=some o->∃ sl,h'.get? b=some {o with slots:=sl})->s.heap.objs.size≤T->T≠a->
      h'.get? a=some (oe.mapFields (·.setIfInBounds 1 (.ref T)))->h'.get? T=some oT->oT.data=.fields ts->ts[3]?=some .none->Q () {s with heap:=h'}) :
    wpAny M A (do let f <- frameOf env;let pl <- entryPlaceOf L had;let b <- EntryCells.newEntry head f .none (rawInt L) .none pl;setField (.ref a) 1 b) (fun _ s'=>wpAny M A (setFlight (.ref a) none) Q E s') E s:=by
  have hene:a∉frs (env::outer):=fun hm=>by
    obtain ⟨_,o,ho,hnf⟩:=hl.mem hm
    rw [he] at ho;cases ho;exact hnf vs hd
  refine wpAny_bind (wpAny_frameOf_fun hfr hl hf fun h₁ hs₁=>?_)
  refine wpAny_bind (wpAny_entryPlaceOf fun pl hpl=>?_)
  unfold EntryCells.newEntry newFields
  refine wpAny_bind (wpAny_newObj_type ?_ (hpl.sizeOk5 _ _ _ _ _))
  have he₁:h₁.get? a=some oe:=(hs₁.2.1 a hene).trans he
  generalize ho:({cls:=.type "traceback",dict:=none,data:=.fields ([head,.ref L,.none,rawInt L,.none]++(if pl.isEmpty then List.replicate 6 Value.none else pl)).toArray}:Obj)=o
  have hod:o.data=.fields ([head,.ref L,.none,rawInt L,.none]++(if pl.isEmpty then List.replicate 6 Value.none else pl)).toArray:=by rw [<- ho]
  have he₂:=Heap.get?_push_of_some (h:=h₁) o he₁
  refine wpAny_setField he₂ hd hsz ?_
  have hTe:h₁.objs.size≠a:=Nat.ne_of_gt (Heap.lt_size he₁)
  have hd₃:=Obj.data_mapFields hd (·.setIfInBounds 1 (Value.ref h₁.objs.size))
  have he₃:=Heap.get?_update_self (Obj.mapFields (·.setIfInBounds 1 (Value.ref h₁.objs.size))) he₂ (Obj.isFreed_of_fields hd₃)
  have hT₃:=(Heap.get?_update_other (h₁.push o) (Obj.mapFields (·.setIfInBounds 1 (Value.ref h₁.objs.size))) (Ne.symm hTe)).trans (Heap.get?_push_size h₁ (Obj.isFreed_of_fields hod))
  unfold setFlight
  refine wpAny_bind (wpAny_field he₃ hd₃ (x:=.ref h₁.objs.size) (by simp [hsz]) ?_)
  rw [if_pos (show (Value.ref h₁.objs.size != Value.none)=true from by simp)]
  refine wpAny_setField hT₃ hod (by simp only [List.size_toArray,List.length_append,List.length_cons,List.length_nil]<;>omega) ?_
  have keep:∀ b u,b≠a->h₁.get? b=some u->(((h₁.push o).update a (Obj.mapFields (·.setIfInBounds 1 (Value.ref h₁.objs.size)))).update h₁.objs.size (Obj.mapFields (·.setIfInBounds 3 ((none:Option Addr).elim Value.none fun f=>rawInt f)))).get? b=some u:=fun b u hbe hb=>by
    have hbT:h₁.objs.size≠b:=Nat.ne_of_gt (Heap.lt_size hb)
    rw [Heap.get?_update_other _ _ hbT,Heap.get?_update_other _ _ (Ne.symm hbe)]
    exact Heap.get?_push_of_some _ hb
  refine h _ h₁.objs.size _ _ (fun b u hb hbe q=>keep b u hbe ((hs₁.2.1 b hb).trans q)) (fun b u hbe q=>?_) (Nat.le_of_eq hs₁.1.symm) hTe ?_ (Heap.get?_update_self _ hT₃ (Obj.isFreed_of_fields (Obj.data_mapFields hod _))) (Obj.data_mapFields hod _) ?_
  · obtain ⟨sl,e⟩:=hs₁.2.2 b u q
    exact ⟨sl,keep b _ hbe e⟩
  · rw [Heap.get?_update_other _ _ hTe];exact he₃
  · first | (simp;done) | (rcases hpl with rfl | ⟨_,_,_,_,_,_,_,rfl⟩<;>simp)
theorem zte (hfr:A.frames=some (env::outer)) (hl:s.heap.FunFrames base (env::outer)) (hf:env.frame=some L) (hF:Fly New C dx a s.heap H) (hN:∀ b,s.heap.objs.size≤b->New b) (hok:HOk P w H s.heap) (hfree:∀ b∈frs (env::outer),H b=none)
    (h:∀ h' ch,(∀ b∈ch,New b /\ H b=none /\ ∃ o vs,s.heap.get? b=some o /\ o.data=.fields vs)->Un (frs (env::outer)) ch H H s.heap h'->HOk P w H h'->Fly New C dx a h' H->Q () {s with heap:=h'}) :
    wpAny M A (noteFrame (.ref a) env) (fun _ s1=>wpAny M A (setFlight (.ref a) none) Q E s1) E s:=by
  obtain ⟨na,ha,oe,vs,he,hc,hdx,hd,tr⟩:=hF
  have fin:∀ h' ch,(∀ b∈ch,New b /\ H b=none /\ ∃ o vs,s.heap.get? b=some o /\ o.data=.fields vs)->(∀ b o,b∉frs (env::outer)->b∉ch->s.heap.get? b=some o->h'.get? b=some o)->(∀ b o,b∉ch->s.heap.get? b=some o->∃ sl,h'.get? b=some {o with slots:=sl})->Fly New C dx a h' H->Q () {s with heap:=h'}:=fun h' ch hch keep slot fl=>by
    refine h h' ch hch ⟨fun b o q _ hb hx=>keep b o hb hx q,fun b o q _ _ hx=>slot b o hx q,fun _ _ _ n _=>n,fun b o q hx=>let ⟨sl,e⟩:=slot b o hx q;⟨_,e⟩,fun _ _ e=>e,fun _ _ _ e=>e,fun b ps e=>⟨#[],by rw [e];simp⟩⟩ (fun b u e=>(hok b u e).stay (fun c v hc q=>?_) (fun _ q=>q) fun _ _ q=>q) fl
    have nn:H c≠none:=by rcases hc with z | z<;>(intro z';first | (rw [z,e] at z';cases z') | (rw [z] at z';cases z'))
    exact keep c v (fun z=>nn (hfree c z)) (fun z=>nn (hch c z).2.1) q
  unfold noteFrame
  simp only [hf]
  rcases tr with h1 | ⟨T,oT,ts,h1,hTa,nT,hT0,hT,hdT,h3⟩
  · refine wpAny_bind (wpAny_field he hd h1 ?_)
    rw [if_neg (by decide)]
    refine zmq hfr hl hf he hd (Array.getElem?_eq_some_iff.mp h1).1 fun h' T oT ts k1 k2 k3 k4 k5 k6 k7 k8=>?_
    refine fin h' [a] (fun b hb=>?_) (fun b o hb hx q=>k1 b o hb (fun z=>hx (by simp [z])) q) (fun b o hx q=>k2 b o (fun z=>hx (by simp [z])) q) ⟨na,ha,_,_,k5,?_,?_,Obj.data_mapFields hd _,.inr ⟨T,oT,ts,by simp [(Array.getElem?_eq_some_iff.mp h1).1],k4,hN _ k3,hok.fresh k3,k6,k7,k8⟩⟩
    · rcases List.mem_singleton.mp hb with rfl
      exact ⟨na,ha,oe,vs,he,hd⟩
    · rw [Obj.cls_mapFields];exact hc
    · rw [zgd];exact hdx
  · refine wpAny_bind (wpAny_field he hd h1 ?_)
    rw [if_pos (show (Value.ref T != Value.none)=true from by simp)]
    refine wpAny_bind (wpAny_field hT hdT h3 ?_)
    rw [if_neg (show ¬ ((Value.none==rawInt L)=true) from by simp [rawInt])]
    refine wpAny_bind (wpAny_setField hT hdT (Array.getElem?_eq_some_iff.mp h3).1 ?_)
    have other:∀ b,b≠T->(s.heap.update T (Obj.mapFields (·.setIfInBounds 3 Value.none))).get? b=s.heap.get? b:=fun b hb=>Heap.get?_update_other _ _ (Ne.symm hb)
    have noRec:∀ b o,s.heap.get? b=some o->(∀ vs,o.data≠.fields vs)->b≠T:=fun b o hb hnf q=>by
      rw [q,hT] at hb;cases hb;exact hnf ts hdT
    have hz:(s.heap.update T (Obj.mapFields (·.setIfInBounds 3 Value.none))).objs.size=s.heap.objs.size:=Heap.size_after_update ..
    refine zmq (s:={s with heap:=s.heap.update T (Obj.mapFields (·.setIfInBounds 3 Value.none))}) hfr (hl.of_keeps fun b o hb hnf=>⟨o,(other b (noRec b o hb hnf)).trans hb,rfl⟩) hf ((other a (Ne.symm hTa)).trans he) hd (Array.getElem?_eq_some_iff.mp h1).1 fun h' T' oT' ts' k1 k2 k3 k4 k5 k6 k7 k8=>?_
    have k3:s.heap.objs.size≤T':=by rw [<- hz];exact k3
    refine fin h' [a,T] (fun b hb=>?_) (fun b o hb hx q=>k1 b o hb (fun z=>hx (by simp [z])) ((other b (fun z=>hx (by simp [z]))).trans q)) (fun b o hx q=>k2 b o (fun z=>hx (by simp [z])) ((other b (fun z=>hx (by simp [z]))).trans q)) ⟨na,ha,_,_,k5,?_,?_,Obj.data_mapFields hd _,.inr ⟨T',oT',ts',by simp [(Array.getElem?_eq_some_iff.mp h1).1],k4,hN _ k3,hok.fresh k3,k6,k7,k8⟩⟩
    · rcases List.mem_cons.mp hb with rfl | hb
      · exact ⟨na,ha,oe,vs,he,hd⟩
      · rcases List.mem_singleton.mp hb with rfl
        exact ⟨nT,hT0,oT,ts,hT,hdT⟩
    · rw [Obj.cls_mapFields];exact hc
    · rw [zgd];exact hdx
end
def CXE (P:Program) (w:World):CXT:=fun outer H s E e s'=>∃ a C dx H',e=.ref a /\ s'.os=s.os /\ AllBare s'.gens /\ Un (frs outer) [] H H' s.heap s'.heap /\ HOk P w H' s'.heap /\ Fly (fun b=>s.heap.get? b=none) C dx a s'.heap H' /\ E (.ref C) dx H'
theorem Fly.imp {New New':Addr->Prop}{C a:Addr}{dx:Option Addr}{h:Heap}{H:Hp} (f:Fly New C dx a h H) (i:∀ b,New b->New' b):Fly New' C dx a h H:=by
  obtain ⟨na,ha,o,vs,h1,h2,h3,h4,tr⟩:=f
  refine ⟨i _ na,ha,o,vs,h1,h2,h3,h4,?_⟩
  rcases tr with t | ⟨T,oT,ts,t1,t2,t3,t4⟩
  · exact .inl t
  · exact .inr ⟨T,oT,ts,t1,t2,i _ t3,t4⟩
section
variable {P:Program}{w:World}{K:PySem.W.Frag}{mg:Str->Option Value}{base:Heap}{N:List Str}{qual:Str}{scope:Scope}{f:Addr}{cd:Value}{A:Around}{outer:List PySem.Env}{s:Shared}{H:Hp}{E:XK}
theorem zqu {pins:List (Addr×Obj)}{σ:L2.St}{H':Hp}{s':Shared}{a C:Addr}{dx:Option Addr} (I:Inv (zca (CXE P w) P w K mg base N qual scope f cd A outer s H E) pins σ H' s') (hF:Fly (NewX (zca (CXE P w) P w K mg base N qual scope f cd A outer s H E)) C dx a s'.heap H') (hE:E (.ref C) dx H') :
    (zca (CXE P w) P w K mg base N qual scope f cd A outer s H E).xe (.ref a) s':=by
  have hst:=I.stack
  have hsz:s.heap.objs.size≤s'.heap.objs.size:=I.sz
  have hL:∀ b o,s.heap.get? b=some o->b∈frs (envOfC qual scope s.heap.objs.size f cd::outer)->b∈frs outer:=fun b o q hb=>by
    rcases List.mem_cons.mp (show b∈s.heap.objs.size::frs outer from hb) with e | e
    · exact absurd (Heap.lt_size q) (by rw [e];exact Nat.lt_irrefl _)
    · exact e
  unfold zca
  dsimp only
  unfold leaving
  refine wpAny_bind (zte (P:=P) (w:=w) (New:=fun b=>s.heap.get? b=none) I.ok.frames hst rfl (hF.imp fun b z=>z.1) (fun b z=>Heap.get?_none_of_le (Nat.le_trans hsz z)) I.hok I.stkFree fun h' ch hch u hok fl=>?_)
  have nch:∀ b o,s.heap.get? b=some o->b∉ch:=fun b o q z=>by have:=(hch b z).1;rw [q] at this;cases this
  have hb0:Un (frs outer) [] H H' s.heap s'.heap:=I.base
  refine ⟨a,C,dx,H',rfl,I.os,I.bare,⟨fun b o q n hb hx=>?_,fun b o q n hb hx=>?_,hb0.free,fun b o q hx=>?_,hb0.tups,hb0.frzs,hb0.tbls⟩,hok,fl,hE⟩
  · exact u.keep b o (hb0.keep b o q n hb hx) (hb0.free b o q n hx) (fun z=>hb (hL b o q z)) (nch b o q)
  · obtain ⟨sl,e⟩:=hb0.slot b o q n hb hx
    obtain ⟨sl',e'⟩:=u.any e (hb0.free b o q n hx) (nch b o q)
    exact ⟨sl',e'⟩
  · obtain ⟨o',e⟩:=hb0.there b o q hx
    exact u.there b o' e (nch b o q)
end
section
variable {X:Cx}{pins:List (Addr×Obj)}{σ:L2.St}{H H':Hp}{s s':Shared}{E:XK}{e:Value}
theorem zjs {a:Addr}{o:HO} (I:Inv X pins σ H s) (hx:X.ex=[]) (hn:H a=none) (h0:X.s₀.heap.get? a=none) (hf:∃ ob vs,s.heap.get? a=some ob /\ ob.data=.fields vs) (hp:∀ p∈X.pn++pins,p.1≠a) (new:zb8 X.prog X.w (upd H a o) s.heap a o):Inv X pins σ (upd H a o) s:=by
  obtain ⟨ob,vs,hob,hd⟩:=hf
  have ne:∀ b u,H b=some u->b≠a:=fun b u e=>zay e hn
  refine ⟨I.ok,I.os,I.bare,⟨I.base.keep,I.base.slot,fun b o e n hx=>?_,I.base.there,fun b xs e=>?_,fun b o u e=>?_,fun b ps e=>?_⟩,I.loc,I.cell,?_,fun x c e=>?_,fun p hp'=>?_,fun b u e=>?_,I.len⟩
  · rw [zar (fun z=>by rw [z,h0] at e;cases e)];exact I.base.free b o e n hx
  · have q:=I.base.tups b xs e
    rw [zar (ne b _ q)];exact q
  · have q:=I.base.frzs b o u e
    rw [zar (ne b _ q)];exact q
  · obtain ⟨m,q⟩:=I.base.tbls b ps e
    exact ⟨m,by rw [zar (ne b _ q)];exact q⟩
  · obtain ⟨m,⟨oL,es,ep,ho,hdL,_⟩,_⟩:=id I.loc
    rw [zar (fun z=>by rw [z,hob] at ho;cases ho;rw [hd] at hdL;cases hdL)];exact I.free
  · obtain ⟨v,o2,e2,d2⟩:=I.cell x c e
    rw [zar (fun z=>by rw [z,hob] at e2;cases e2;rw [hd] at d2;cases d2)];exact I.freeC x c e
  · obtain ⟨e,n,r⟩:=I.pin p hp'
    exact ⟨e,by rw [zar (hp p hp')];exact n,r⟩
  · by_cases hb:b=a
    · subst hb
      rw [zbg] at e;cases e
      exact new
    · rw [zar hb] at e
      exact (I.hok b u e).stay (fun c v _ q=>q) (fun c q=>by rw [zar (ne c _ q)];exact q) fun c xs q=>by rw [zar (ne c _ q)];exact q
end
def okX {α:Type} (r:Res α) (k:α->Mem->Prop) (kx:D->Mem->Prop):Prop:=match r with
  | .ok a M=>k a M
  | .err x M=>kx x M
  | .bad=>False
theorem okX_of {α:Type}{r:Res α}{k:α->Mem->Prop}{kx:D->Mem->Prop} (h:okE r k):okX r k kx:=by
  cases r with
  | ok a M=>exact h
  | err=>exact h.elim
  | bad=>exact h
def zn5 (fa:Fa) (K:PySem.W.Frag) (μ:Mu) (H:Hp) (E:XK) (x:D) (M':Mem):Prop:=∀ C dx c p H' μ',Ext μ H μ' H'->RelM fa K μ' H' M'->x=.exc c p->fa (cid c)=some C->XNum H' c dx p->E (.ref C) dx H'
theorem passE {P:Program}{w:World}{X:Cx}:Passes (CXE P w) X E0:=fun _ _ _ _ _ _ _ h=>let ⟨_,_,_,_,_,_,_,_,_,_,z⟩:=h;z.elim
end LD
namespace LD
open PySem PySem.Spec PyProof.Rows L2
def spD (fa:Fa) (K:PySem.W.Frag) (k:Nat) (call:List D->Mem->Res D):Sp:=fun vs H Q E=>vs.length=k /\ ∃ μ M ds,RelM fa K μ H M /\ zat fa K μ H ds vs /\ okX (call ds M) (zbb fa K μ H Q) (zn5 fa K μ H E)
def zee (fa:Fa) (P:Program) (w:World) (K:PySem.W.Frag) (mg:Str->Option Value) (base:Heap) (n:Nat) (f:Nat) (call:List D->Mem->Res D):Prop:=
  (∀ ds M,call ds M=.bad) \/ ∃ (ad:Addr) (fd:FuncData) (ps:List Str),fa f=some ad /\ PySem.W.keepIn K (.ref ad)=true /\ Binds K fd ps [] /\ (∀ ds M,ds.length≠ps.length->call ds M=.bad) /\ zdm P w K mg base (CXE P w) (n+4) ad fd ps (spD fa K ps.length call)
section
variable {fa:Fa}{X:Cx}{a b d:PySem.Expr}{ga gb gd:Env->Mem->Res D}{pos p:Pos}{es:List PySem.Expr}{gs:Env->Mem->Res (List D)}{n:Nat}
theorem bad_of {call:List D->Mem->Res D}{P:D->Mem->Prop}{r:Res (List D)} (hb:∀ ds M,call ds M=.bad) (h:okE (r.bind fun ds M=>call ds M) P):False:=by
  obtain ⟨ds,M,_,q⟩:=za5 h
  rw [hb] at q
  exact q
theorem zpo {call:List D->Mem->Res D}{k:Nat}{σ:L2.St}{H:Hp}{Q:VK}{μ:Mu}{ρ:Env}{M:Mem} (hE:za4 fa X.K μ H σ ρ) (hM:RelM fa X.K μ H M) (h:okE ((gs ρ M).bind fun ds M=>call ds M) (zbb fa X.K μ H Q))
    (hk:∀ ds M1,ds.length≠k->call ds M1=.bad):tCall (spD fa X.K k call) [] E0 (tA fa X.K gs) σ H Q:=by
  refine tA1 hE hM h fun ds M1 vs H1 μ1 x1 hE1 hM1 r1 h1=>?_
  rw [List.append_nil]
  refine ⟨?_,μ1,M1,ds,hM1,r1,okX_of (okW h1 x1)⟩
  rw [r1.length]
  by_cases hl:ds.length=k
  · exact hl
  · rw [hk ds M1 hl] at h1;exact h1.elim
theorem d_call {f:Nat}{x:Str}{call:List D->Mem->Res D} (C:zee fa X.prog X.w X.K X.mg X.base n f call) (hr:zbd (n+4) X.A) (hg:Gl X x) (hm:∀ ad,fa f=some ad->X.mg x=some (.ref ad)) (hs:DA fa X (a::es) gs)
    (hdb:(x==("__debug__":Str))=false) (he:starEach (a::es) X.env=(false,eval a X.env)::starEach es X.env) (hpl:(backTo pos (starEach es X.env)).any (·.1)=false) :
    DE fa X (.Call (.Name x p) (a::es) [] pos) (fun ρ M=>(gs ρ M).bind fun ds M=>call ds M):=by
  rcases C with hb | ⟨ad,fd,ps,h1,h2,h3,h4,F⟩
  · exact fun pins s σ H Q I ⟨μ,ρ,M,hE,hM,h⟩=>(bad_of hb h).elim
  · exact zcb (zs7 F hr hg (hm ad h1) h2 h3 .nil passE hs hdb he hpl) fun σ H Q ⟨μ,ρ,M,hE,hM,h⟩=>zpo hE hM h h4
theorem d_blt (f:Blt) {x:Str}{id:String} (hc:zcn X (.builtin id) (rBlt fa X.K f)) (hg:Gl X x) (hm:X.mg x=none) (hv:bootBuiltins x=some (.builtin id)) (hs:DA fa X (a::es) gs) (hn:x≠"__name__") (hdb:(x==("__debug__":Str))=false)
    (he:starEach (a::es) X.env=(false,eval a X.env)::starEach es X.env) (hpl:(backTo pos (starEach es X.env)).any (·.1)=false):DE fa X (.Call (.Name x p) (a::es) [] pos) (fun ρ M=>(gs ρ M).bind fun ds M=>zdg f ds M):=
  zcb (zet hc hg hm hv hs hn hdb he hpl) fun σ H Q ⟨μ,ρ,M,hE,hM,h⟩=>tA1 hE hM h fun ds M1 vs H1 μ1 x1 hE1 hM1 r1 h1=>⟨μ1,M1,ds,hM1,r1,okW h1 x1⟩
theorem d_bltT (f:Blt) {x:Str}{T:String} (hc:zcn X (.type T) (rBlt fa X.K f)) (hg:Gl X x) (hm:X.mg x=none) (hv:bootBuiltins x=some (.type T)) (hs:DA fa X (a::es) gs) (hn:x≠"__name__") (hdb:(x==("__debug__":Str))=false)
    (he:starEach (a::es) X.env=(false,eval a X.env)::starEach es X.env) (hpl:(backTo pos (starEach es X.env)).any (·.1)=false):DE fa X (.Call (.Name x p) (a::es) [] pos) (fun ρ M=>(gs ρ M).bind fun ds M=>zdg f ds M):=
  zcb (zo5 hc hg hm hv hs hn hdb he hpl) fun σ H Q ⟨μ,ρ,M,hE,hM,h⟩=>tA1 hE hM h fun ds M1 vs H1 μ1 x1 hE1 hM1 r1 h1=>⟨μ1,M1,ds,hM1,r1,okW h1 x1⟩
theorem d_inst (t:Ty) (ht:∀ c,t≠.own c) {x:Str}{p1 p2:Pos} (ha:DE fa X a ga) (hg:Gl X "isinstance") (hm:X.mg "isinstance"=none) (hv:bootBuiltins "isinstance"=some (.builtin "isinstance")) (hgt:Gl X x) (hmt:X.mg x=none) (hvt:bootBuiltins x=some (.type (tyName t)))
    (hn:x≠"__name__") (hdb:(x==("__debug__":Str))=false)
    (he:starEach [a,.Name x p1] X.env=(false,eval a X.env)::starEach [.Name x p1] X.env):DE fa X (.Call (.Name "isinstance" p2) [a,.Name x p1] [] pos) (fun ρ M=>(ga ρ M).bind fun x M=>(ofO M (zfu t x)).bind fun b M=>.ok (.bl b) M):=
  zcb (zet (f_inst (fa:=fa) t ht) hg hm hv (zbu ha (zbu (zmx hgt hmt hvt (v:=.ty (tyName t)) rfl hn hdb) zc6 (by rfl)) he) (by decide) (by decide) he (by rfl)) fun σ H Q ⟨μ,ρ,M,hE,hM,h⟩=>t1 hE hM h fun x M1 v H1 μ1 x1 hE1 hM1 r1 h1=>by
    obtain ⟨b,e,q⟩:=zlo h1
    exact ⟨μ1,M1,x,v,b,rfl,hM1,r1,e,za6 (v:=.bl b) hM1 (q.ext x1) rfl⟩
def gT (fa:Fa) (K:PySem.W.Frag) (t:Tgt):TG:=fun v σ H Q=>∃ μ ρ M d ρ1,za4 fa K μ H σ ρ /\ RelM fa K μ H M /\ Rep fa K μ H d v /\ zcj t d ρ=some ρ1 /\ ∀ σ1,za4 fa K μ H σ1 ρ1->Q σ1 H
theorem zo3 {tg:PySem.Expr}{g g':TG} (h:PG X tg g) (i:∀ v σ H Q,g' v σ H Q->g v σ H Q):PG X tg g':=fun pins s σ H v u Q I r q=>h pins s σ H v u Q I r (i v σ H Q q)
theorem zmu {tg:List PySem.Expr}{g g':TGs} (h:PGs X tg g) (i:∀ v σ H Q,g' v σ H Q->g v σ H Q):PGs X tg g':=fun pins s σ H v u Q I r q=>h pins s σ H v u Q I r (i v σ H Q q)
theorem zty {i:Nat}{x:Str} (hN:X.N.Nodup) (hi:X.N[i]?=some x) (hx:Loc X.env.scope x) (hf:X.fn x=true \/ X.env.scope.names.lookup x=some .local):PG X (.Name x pos) (gT fa X.K (.one i)):=
  zo3 (zmv hN hi hx hf) fun v σ H Q ⟨μ,ρ,M,d,ρ1,hE,hM,r,e,k⟩=>by
    have e':ρ.set i (some d)=ρ1:=Option.some.inj e
    subst e'
    exact k _ (hE.set r)
def gNames (fa:Fa) (K:PySem.W.Frag) (l:List Nat):TGs:=fun vs σ H Q=>∃ μ ρ M ds ρ1,za4 fa K μ H σ ρ /\ RelM fa K μ H M /\ zat fa K μ H ds vs /\ zfd l ds ρ=some ρ1 /\ ∀ σ1,za4 fa K μ H σ1 ρ1->Q σ1 H
inductive ze5 (X:Cx):List Nat->List PySem.Expr->Prop
  | nil:ze5 X [] []
  | cons {i:Nat}{x:Str}{p:Pos}{l:List Nat}{ns:List PySem.Expr} (hi:X.N[i]?=some x) (hx:Loc X.env.scope x) (hf:X.fn x=true \/ X.env.scope.names.lookup x=some .local) (r:ze5 X l ns):ze5 X (i::l) (.Name x p::ns)
theorem ze5.each {l:List Nat}{ns:List PySem.Expr} (h:ze5 X l ns):(assignEach ns X.env).length=l.length /\ (assignEach ns X.env).findIdx? (·.1)=none:=by
  induction h with
  | nil=>exact ⟨rfl,rfl⟩
  | cons hi hx hf r ih =>
    rename_i i x p l ns
    have e:assignEach (.Name x p::ns) X.env=(false,assign (.Name x p) X.env)::assignEach ns X.env:=rfl
    rw [e]
    refine ⟨by simp [ih.1],?_⟩
    rw [List.findIdx?_cons]
    simp [ih.2]
theorem zq9 (hN:X.N.Nodup) {l:List Nat}{ns:List PySem.Expr} (h:ze5 X l ns):PGs X ns (gNames fa X.K l):=by
  induction h with
  | nil =>
    refine zmu zs5 fun vs σ H Q ⟨μ,ρ,M,ds,ρ1,hE,hM,r,e,k⟩=>?_
    cases ds with
    | nil =>
      obtain rfl:vs=[]:=r
      have e':ρ=ρ1:=Option.some.inj e
      subst e'
      exact ⟨rfl,k _ hE⟩
    | cons=>cases e
  | cons hi hx hf r ih =>
    refine zmu (zqo (zmv hN hi hx hf) ih (by rfl)) fun vs σ H Q ⟨μ,ρ,M,ds,ρ1,hE,hM,r,e,k⟩=>?_
    cases ds with
    | nil=>cases e
    | cons d ds =>
      obtain ⟨v,vr,rfl,r1,r2⟩:=r
      exact ⟨v,vr,rfl,μ,_,M,ds,ρ1,hE.set r1,hM,r2,e,k⟩
theorem zf0:∀ {l:List Nat}{ds:List D}{ρ ρ1:Env},zfd l ds ρ=some ρ1->ds.length=l.length
  | [],[],_,_,_=>rfl
  | _::_,[],_,_,h=>by cases h
  | [],_::_,_,_,h=>by cases h
  | _ :: l, _ :: ds, _, _, h => by
    have:=zf0 (l:=l) (ds:=ds) h
    simp [this]
theorem dg_tup (hc:X.calm=true) (hN:X.N.Nodup) {l:List Nat}{ns:List PySem.Expr}{k:Nat} (h:ze5 X l ns):PG X (.Tuple ns k pos) (gT fa X.K (.tup l)):=
  zo3 (pg_tup (n:=l.length) hc (zq9 (fa:=fa) hN h) h.each.1 h.each.2) fun v σ H Q ⟨μ,ρ,M,d,ρ1,hE,hM,r,e,k⟩=>by
    cases d with
    | tup ds =>
      obtain ⟨a,vs,rfl,hq,r⟩:=r
      exact ⟨a,vs,rfl,hq,by rw [r.length];exact zf0 e,μ,ρ,M,ds,ρ1,hE,hM,r,e,k⟩
    | _=>cases e
end
end LD
namespace LD
open PySem PySem.Spec PyProof.Rows L2
section
variable {fa:Fa}{X:Cx}{a b d:PySem.Expr}{ga gb gd:Env->Mem->Res D}{pos p:Pos}{es:List PySem.Expr}{gs:Env->Mem->Res (List D)}{n:Nat}
theorem ds_asg {tg:PySem.Expr}{t:Tgt} (ha:DE fa X a ga) (hg:PG X tg (gT fa X.K t)) (hs:swapsWithSole [tg] a pos.line X.env=pure false) (hw:swappedStores [tg] a X.env=pure none) (h1:(assignEach [tg] X.env).map (·.2)=[assign tg X.env]) :
    DS fa X (.Assign [tg] a pos) (fun ρ M=>(ga ρ M).bind fun x M=>(ofO M (zcj t x ρ)).bind fun ρ1 M=>.ok (.next ρ1) M):=
  zff (zo0 ha hg hs hw h1) fun D σ H ⟨μ,ρ,M,hE,hM,h⟩=>t1 hE hM h fun x M1 v H1 μ1 x1 hE1 hM1 r1 h1=>by
    obtain ⟨ρ1,M2,e,q⟩:=za5 h1
    cases eb:zcj t x ρ with
    | none=>rw [eb] at e;cases e
    | some ρ2 =>
      rw [eb] at e
      cases e
      exact ⟨μ1,ρ,M1,x,ρ1,hE1,hM1,r1,eb,fun σ1 hE2=>q σ1 H1 μ1 x1 hE2 hM1⟩
theorem zof {D':Ends}{μ:Mu}{H:Hp}{σ:L2.St}{ρ:Env}{M:Mem}{k:Nat}{ad:Addr}{ws:List V}{ds:List D} (hE:za4 fa X.K μ H σ ρ) (hM:RelM fa X.K μ H M) (hk:μ.pub k=some ad) (r:zat fa X.K μ H ds ws)
    (q:∀ σ' H' μ',Ext μ H μ' H'->za4 fa X.K μ' H' σ' ρ->RelM fa X.K μ' H' (M.set k ds)->D'.nx σ' H'):D'.nx σ (upd H ad (.lst ws)):=
  q σ _ μ (Ext.write (vs:=ws) hM hk) (hE.ext (Ext.write (vs:=ws) hM hk)) (hM.write hk r)
theorem ds_put (ha:DE fa X a ga) (hb:DE fa X b gb) (hd:DE fa X d gd) {p2:Pos}
    (h0:∀ v,assign (.Subscript a b p2) X.env v=(do
      let ov <- holding [v] (eval a X.env)
      let iv <- holding [v,ov] (eval b X.env)
      standAt p2
      holding [v,ov,iv] (setItem ov iv v)
      release [v,ov,iv] [])) (hs:swapsWithSole [.Subscript a b p2] d pos.line X.env=pure false) (hw:swappedStores [.Subscript a b p2] d X.env=pure none) (h1:(assignEach [.Subscript a b p2] X.env).map (·.2)=[assign (.Subscript a b p2) X.env]) :
    DS fa X (.Assign [.Subscript a b p2] d pos) (fun ρ M=>(gd ρ M).bind fun z M=>(ga ρ M).bind fun x M=>(gb ρ M).bind fun y M=>match x,y with
      | .cell k, .int n => match M[k]? with
        | some ds => match ixN ds.length n with
          | some j=>.ok (.next ρ) (M.set k (ds.set j z))
          | none=>.bad
        | none=>.bad
      | _,_=>.bad):=
  zff (zo0 hd (pg_sub ha hb set_list h0) hs hw h1) fun D' σ H ⟨μ,ρ,M,hE,hM,h⟩=>t1 hE hM h fun z M1 v H1 μ1 x1 hE1 hM1 r1 h1=>t2 hE1 hM1 h1 fun x y M2 vx vy H2 μ2 x2 hE2 hM2 rx ry h2=>by
    have key:∀ k n,x=.cell k->y=.int n->rSetL vx vy v H2 fun H3=>D'.nx σ H3:=fun k n e1 e2=>by
      subst e1 e2
      dsimp only at h2
      cases e:M2[k]? with
      | none=>rw [e] at h2;exact h2.elim
      | some ds =>
        rw [e] at h2
        dsimp only at h2
        cases ej:LD.ixN ds.length n with
        | none=>rw [ej] at h2;exact h2.elim
        | some j =>
          rw [ej] at h2
          obtain ⟨ad,rfl,hk⟩:=rx
          obtain ⟨ad',ws,h3,h4,h5⟩:=hM2.at' k ds e
          rw [hk] at h3;cases h3
          have q:∀ σ' H' μ',Ext μ H μ' H'->za4 fa X.K μ' H' σ' ρ->RelM fa X.K μ' H' (M2.set k (ds.set j z))->D'.nx σ' H':=h2
          refine ⟨ad,ws,n,j,rfl,ry,h4,by rw [h5.length];exact ej,zof hE2 hM2 hk (h5.set j (r1.ext x2)) fun σ' H' μ' x' e' m'=>q σ' H' μ' ((x1.trans x2).trans x') e' m'⟩
    cases x with
    | cell k => cases y with
      | int n=>exact key k n rfl rfl
      | _=>exact h2.elim
    | _=>exact h2.elim
theorem ds_ret (ha:DE fa X a ga):DS fa X (.Return (some a) pos) (fun ρ M=>(ga ρ M).bind fun x M=>.ok (.ret x) M):=
  zff (ps_ret ha) fun D' σ H ⟨μ,ρ,M,hE,hM,h⟩=>by
    obtain ⟨x,M1,e,q⟩:=za5 h
    refine ⟨μ,ρ,M,hE,hM,?_⟩
    rw [e];exact q
theorem ds_pass:DS fa X (.Pass pos) (fun ρ M=>.ok (.next ρ) M):=zff zsz fun D' σ H ⟨μ,ρ,M,hE,hM,h⟩=>h σ H μ .refl hE hM
theorem FlP.ext {μ μ':Mu}{H H':Hp}{D':Ends} (x:Ext μ H μ' H') {fl:Fl}{M:Mem} (q:FlP fa X μ H D' fl M):FlP fa X μ' H' D' fl M:=by
  cases fl with
  | next ρ'=>exact fun σ' H'' μ'' y e m=>q σ' H'' μ'' (x.trans y) e m
  | ret d=>exact zbb.ext q x
  | exc x' ρ'=>exact XW.ext q x
theorem okF {r:Res Fl}{μ μ':Mu}{H H':Hp}{D':Ends} (x:Ext μ H μ' H') (h:okE r (FlP fa X μ H D')):okE r (FlP fa X μ' H' D'):=zbv h fun fl M q=>q.ext x
theorem ds_ite {c:PySem.Expr}{gc:Env->Mem->Res Bool}{st sf:List PySem.Stmt}{gt gf:Env->Mem->Res Fl} (hc:DT fa X c gc) (ht:DSs fa X st gt) (hf:DSs fa X sf gf):DS fa X (.If c st sf pos) (fun ρ M=>(gc ρ M).bind fun k M=>if k then gt ρ M else gf ρ M):=
  zff (ps_if hc ht hf) fun D' σ H ⟨μ,ρ,M,hE,hM,h⟩=>tT1 hE hM h fun k M1 H1 μ1 x1 hE1 hM1 h1=>by
    cases k with
    | true=>exact ⟨μ1,ρ,M1,hE1,hM1,okF x1 h1⟩
    | false=>exact ⟨μ1,ρ,M1,hE1,hM1,okF x1 h1⟩
theorem ztr:DSs fa X [] (fun ρ M=>.ok (.next ρ) M):=zmt zms fun D' σ H ⟨μ,ρ,M,hE,hM,h⟩=>h σ H μ .refl hE hM
theorem zq8 {st:PySem.Stmt}{ss:List PySem.Stmt}{g:Env->Mem->Res Fl}{g':Env->Mem->Res Fl} (h1:DS fa X st g) (h2:DSs fa X ss g'):DSs fa X (st::ss) (fun ρ M=>(g ρ M).bind fun fl M=>match fl with
    | .next ρ=>g' ρ M
    | fl=>.ok fl M):=
  zmt (zha h1 h2) fun D' σ H ⟨μ,ρ,M,hE,hM,h⟩=>by
    obtain ⟨fl,M1,e,q⟩:=za5 h
    refine ⟨μ,ρ,M,hE,hM,?_⟩
    rw [e]
    cases fl with
    | next ρ1=>exact fun σ1 H1 μ1 x1 hE1 hM1=>⟨μ1,ρ1,M1,hE1,hM1,okF x1 q⟩
    | ret d=>exact q
    | exc x ρ1=>exact q
end
end LD
namespace LD
open PySem PySem.Spec PyProof.Rows L2
def zc9 (fa:Fa) (K:PySem.W.Frag) (μ0:Mu) (H0:Hp) (w:Walk) (J:It):Prop:=
  ∀ (μ:Mu) (H:Hp) (M:Mem) (ds:List D),ExtW μ0 H0 μ H->RelM fa K μ H M->w M=some ds->(∀ (i:Nat) (d:D),ds[i]?=some d->J.go i H /\ ∀ x H',J.yld i H x H'->Ext μ H μ H' /\ RelM fa K μ H' M /\ Rep fa K μ H' d x) /\ ∀ i,ds.length≤i->J.stop i H
def tI (fa:Fa) (K:PySem.W.Frag) (g:Env->Mem->Res Walk):TI:=fun σ H R=>∃ μ ρ M,za4 fa K μ H σ ρ /\ RelM fa K μ H M /\ okE (g ρ M) fun w M'=>∀ J H' μ',Ext μ H μ' H'->RelM fa K μ' H' M'->zc9 fa K μ' H' w J->R J H'
abbrev DI (fa:Fa) (X:Cx) (tg iter:PySem.Expr) (g:Env->Mem->Res Walk):Prop:=PI X tg iter (tI fa X.K g)
theorem zoh {fa:Fa}{K:PySem.W.Frag}{μ0 μ1:Mu}{H0 H1:Hp}{w:Walk}{J:It} (h:zc9 fa K μ0 H0 w J) (x:ExtW μ0 H0 μ1 H1):zc9 fa K μ1 H1 w J:=fun μ H M ds y hM e=>h μ H M ds (x.trans y) hM e
section
variable {fa:Fa}{X:Cx}{tg a b d:PySem.Expr}{ga gb gd:Env->Mem->Res D}{pos p:Pos}{es:List PySem.Expr}{n:Nat}
theorem zoi {μ0:Mu}{H0:Hp}{dd:D}{ad:Addr} (h:Rep fa X.K μ0 H0 dd (.ref ad)):zc9 fa X.K μ0 H0 (fun M=>rdD M dd) (Itl X.K ad):=fun μ H M ds x hM e=>by
  obtain ⟨ad',vs,ea,s,r⟩:=zbl hM (Rep.extW x h) e
  cases ea
  refine ⟨fun i d hd=>?_,fun i hi=>⟨vs,s,by rw [r.length];exact hi⟩⟩
  obtain ⟨v,hv,rv⟩:=r.get hd
  refine ⟨⟨vs,v,s,hv⟩,fun y H' ⟨e,hy⟩=>?_⟩
  subst e
  have:=hy vs s
  rw [hv] at this;cases this
  exact ⟨.refl,hM,rv⟩
theorem zp3 {μ0:Mu}{H0:Hp}{ds:List D}{ad:Addr} (h:Rep fa X.K μ0 H0 (.tup ds) (.ref ad)):zc9 fa X.K μ0 H0 (fun _=>some ds) (Itt X.K ad):=fun μ H M ds' x hM e'=>by
  cases e'
  obtain ⟨ad',vs,e,s,r⟩:=Rep.extW x h
  cases e
  refine ⟨fun i d hd=>?_,fun i hi=>⟨vs,s,by rw [r.length];exact hi⟩⟩
  obtain ⟨v,hv,rv⟩:=r.get hd
  refine ⟨⟨vs,v,s,hv⟩,fun y H' ⟨e,hy⟩=>?_⟩
  subst e
  have:=hy vs s
  rw [hv] at this;cases this
  exact ⟨.refl,hM,rv⟩
theorem zp5 {μ0:Mu}{H0:Hp} (lo:Int) (n:Nat):zc9 fa X.K μ0 H0 (fun _=>some ((List.range n).map fun (k:Nat)=>D.int (lo+(k:Int)))) (Itr lo n):=fun μ H M ds x hM e=>by
  cases e
  refine ⟨fun i d hd=>?_,fun i hi=>(show n≤i by simpa using hi)⟩
  rw [List.getElem?_map] at hd
  by_cases hi:i < n
  · rw [List.getElem?_range hi] at hd
    have e:D.int (lo+(i:Int))=d:=Option.some.inj hd
    subst e
    refine ⟨hi,fun y H' ⟨e1,e2⟩=>?_⟩
    subst e1 e2
    exact ⟨.refl,hM,rfl⟩
  · rw [List.getElem?_eq_none (by simpa using hi)] at hd;cases hd
def zck (ga : Env -> Mem -> Res D) : Env -> Mem -> Res Walk := fun ρ M => (ga ρ M).bind fun x M => match x with
    | .lst ds=>.ok (fun _=>some ds) M
    | .tup ds=>.ok (fun _=>some ds) M
    | .frz ds=>.ok (fun _=>some ds) M
    | .cell k=>.ok (fun M=>M[k]?) M
    | _=>.bad
theorem di_seq (ha:DE fa X a ga):DI fa X tg a (zck ga):=fun pins s σ H R I ⟨μ,ρ,M,hE,hM,h⟩=>by
  obtain ⟨x,M1,e,q⟩:=za5 h
  have lst:(∀ μ' H',RelM fa X.K μ' H' M1->∀ v,Rep fa X.K μ' H' x v->∃ ds,rdD M1 x=some ds)->(∀ J H' μ',Ext μ H μ' H'->RelM fa X.K μ' H' M1->zc9 fa X.K μ' H' (fun M=>rdD M x) J->R J H')->
      wpAny (model X.prog X.w) X.A (eval a X.env) (fun v s1=>wpAny (model X.prog X.w) X.A (pyIter v) (PIE X pins σ tg R) X.xe s1) X.xe s:=fun hx q=>by
    refine zs4 ha pins s σ H R I ⟨μ,ρ,M,hE,hM,?_⟩
    rw [e]
    intro v H1 μ1 x1 m1 r1
    obtain ⟨ds,er⟩:=hx μ1 H1 m1 v r1
    obtain ⟨ad,vs,rfl,s1,r⟩:=zbl m1 r1 er
    exact ⟨ad,rfl,⟨vs,s1⟩,q _ H1 μ1 x1 m1 (zoi r1)⟩
  cases x with
  | lst ds=>exact lst (fun _ _ _ _ _=>⟨ds,rfl⟩) q
  | frz ds=>exact lst (fun _ _ _ _ _=>⟨ds,rfl⟩) q
  | tup ds =>
    refine pi_tup ha pins s σ H R I ⟨μ,ρ,M,hE,hM,?_⟩
    rw [e]
    intro v H1 μ1 x1 m1 r1
    obtain ⟨ad,vs,rfl,s1,r⟩:=id r1
    exact ⟨ad,rfl,⟨vs,s1⟩,q _ H1 μ1 x1 m1 (zp3 r1)⟩
  | cell k=>exact lst (fun μ' H' m' v ⟨ad,_,hk⟩=>let ⟨ds,_,e,_⟩:=m'.mu_lt hk;⟨ds,e⟩) q
  | _=>exact q.elim
def zci (ga : Env -> Mem -> Res D) : Env -> Mem -> Res Walk := fun ρ M => (ga ρ M).bind fun x M => match x with
    | .int n=>if -(2 ^ 62)≤n /\ n < 2 ^ 62 then .ok (fun _=>some ((List.range n.toNat).map fun (k:Nat)=>D.int (k:Int))) M else .bad
    | _=>.bad
theorem ztw (ha:DE fa X a ga) (hg:Gl X "range") (hm:X.mg "range"=none) (hs:starEach [a] X.env=[(false,eval a X.env)]):DI fa X tg (.Call (.Name "range" p) [a] [] pos) (zci ga):=fun pins s σ H R I ⟨μ,ρ,M,hE,hM,h⟩=>by
  refine zo2 hg hm (zbu ha zc6 hs) hs pins s σ H R I ?_
  refine t1 hE hM h fun x M1 v H1 μ1 x1 hE1 hM1 r1 h1=>?_
  cases x with
  | int n =>
    dsimp only at h1
    split at h1
    · next c=>
      obtain rfl:v=.int n:=r1
      refine ⟨n,rfl,c.1,c.2,h1 _ H1 μ1 x1 hM1 ?_⟩
      have:=zp5 (fa:=fa) (X:=X) (μ0:=μ1) (H0:=H1) 0 n.toNat
      simpa using this
    · exact h1.elim
  | _=>exact h1.elim
def zel (t:Tgt) (gb:Env->Mem->Res Fl):Fl->D->Mem->Res Fl:=fun fl d M=>match fl with
  | .next ρ=>(ofO M (zcj t d ρ)).bind fun ρ1 M=>gb ρ1 M
  | fl=>.ok fl M
def Fl.out:Fl->Bool
  | .next _=>false
  | _=>true
theorem zfs {t:Tgt}{gb:Env->Mem->Res Fl}{fl:Fl}{w:Walk}{P:Fl->Mem->Prop} (ho:fl.out=true):∀ (n i:Nat) (M:Mem),okE (zda (zel t gb) w n i fl M) P->P fl M
  | 0,_,_,h=>h.elim
  | n + 1, i, M, h => by
    unfold zda at h
    cases e:w M with
    | none=>rw [e] at h;exact h.elim
    | some ds =>
      rw [e] at h
      dsimp only at h
      cases e2:ds[i]? with
      | none=>rw [e2] at h;exact h
      | some d' =>
        rw [e2] at h
        cases fl with
        | next ρ=>cases ho
        | ret d=>exact zfs ho n (i+1) M h
        | exc x ρ=>exact zfs ho n (i+1) M h
theorem ds_for {t:Tgt}{body:List PySem.Stmt}{gw:Env->Mem->Res Walk}{gb:Env->Mem->Res Fl} (hp:PassesOwn (model X.prog X.w) X.A X.env X.xe) (hc:X.calm=true) (hi:DI fa X tg a gw) (hg:PG X tg (gT fa X.K t)) (hb:DSs fa X body gb)
    (hs:∀ x,foldedSetIterable a X.env x=pure x):DS fa X (.For tg a body [] pos) (fun ρ M=>(gw ρ M).bind fun w M=>zdh (zel t gb) w (.next ρ) M):=
  zff (ps_for hp hc hi hg hb hs) fun D' σ H ⟨μ,ρ,M,hE,hM,h⟩=>by
    obtain ⟨w,M1,e,q⟩:=za5 h
    refine ⟨μ,ρ,M,hE,hM,?_⟩
    rw [e]
    intro J H1 μ1 x1 hM1 wk
    have hE1:=hE.ext x1
    refine ⟨fun i m σ' H'=>∃ μ' ρ' M',Ext μ1 H1 μ' H' /\ za4 fa X.K μ' H' σ' ρ' /\ RelM fa X.K μ' H' M' /\ okE (zda (zel t gb) w m i (.next ρ') M') (FlP fa X μ H D'),
      ⟨_,μ1,ρ,M1,.refl,hE1,hM1,q⟩,?_⟩
    rintro i m σ2 H2 ⟨μ2,ρ2,M2,x2,hE2,hM2,q2⟩
    cases m with
    | zero=>exact q2.elim
    | succ m =>
      unfold zda at q2
      cases e2:w M2 with
      | none=>rw [e2] at q2;exact q2.elim
      | some ds =>
        rw [e2] at q2
        dsimp only at q2
        obtain ⟨go,stop⟩:=wk μ2 H2 M2 ds x2.toExtW hM2 e2
        cases ed:ds[i]? with
        | none =>
          rw [ed] at q2
          exact .inl ⟨stop i (List.getElem?_eq_none_iff.mp ed),q2 σ2 H2 μ2 (x1.trans x2) hE2 hM2⟩
        | some d =>
          rw [ed] at q2
          obtain ⟨g1,g2⟩:=go i d ed
          refine .inr ⟨g1,fun σ' H'=>∃ μ' ρ' M',Ext μ1 H1 μ' H' /\ za4 fa X.K μ' H' σ' ρ' /\ RelM fa X.K μ' H' M' /\ okE (zda (zel t gb) w m (i+1) (.next ρ') M') (FlP fa X μ H D'),fun σ' H' z=>⟨m,by omega,z⟩,fun y H3 hy=>?_⟩
          obtain ⟨x3,hM3,r3⟩:=g2 y H3 hy
          have q2:okE (((ofO M2 (zcj t d ρ2)).bind fun ρ1 M=>gb ρ1 M).bind (zda (zel t gb) w m (i+1))) (FlP fa X μ H D'):=q2
          obtain ⟨fl,M4,e4,q4⟩:=za5 q2
          obtain ⟨ρ4,M5,e5,e6⟩:=zic e4
          cases eb:zcj t d ρ2 with
          | none=>rw [eb] at e5;cases e5
          | some ρ5 =>
            rw [eb] at e5
            cases e5
            refine ⟨μ2,ρ2,_,d,ρ4,hE2.ext x3,hM3,r3,eb,fun σ5 hE5=>⟨μ2,ρ4,_,hE5,hM3,?_⟩⟩
            rw [e6]
            cases fl with
            | next ρ6=>exact fun σ6 H6 μ6 x6 hE6 hM6=>⟨μ6,ρ6,M4,(x2.trans x3).trans x6,hE6,hM6,q4⟩
            | ret d6=>exact (zfs rfl m (i+1) M4 q4).ext ((x1.trans x2).trans x3)
            | exc x6 ρ6=>exact (zfs rfl m (i+1) M4 q4).ext ((x1.trans x2).trans x3)
end
end LD
namespace LD
open PySem PySem.Spec PyProof.Rows L2
abbrev FF:Value->Shared->Prop:=fun _ _=>False
section
variable {prog:Program}{w:World}{A:Around}{s:Shared}
theorem zpj {elt:PySem.Expr}{gens:List Comprehension}{scope:Scope}{pos p:Pos}{k:Nat}{it acc:Value}{env:PySem.Env}{R:Result->Shared->Prop}{target:PySem.Expr}{body:Sem Unit}
    (heq:compTurn (.ListComp elt gens scope pos) k it acc env=(standAt p >>= fun _=>pyNext it >>= fun r=>match r with
      | none=>pure (.done .next)
      | some v=>letOwnedTupleGo target it v >>= fun _=>assign target env v >>= fun _=>body >>= fun _=>again (.compLoop (.ListComp elt gens scope pos) k it acc env)))
    (I:Nat->Shared->Prop)
    (turn:∀ n s,I n s->wpAny (model prog w) A (pyNext it) (fun r s₁=>match r with
      | none=>R (.ok .next) s₁
      | some v=>wpAny (model prog w) A (letOwnedTupleGo target it v) (fun _ s₂=>wpAny (model prog w) A (assign target env v) (fun _ s₃=>wpAny (model prog w) A body (fun _ s₄=>∃ m,m < n /\ I m s₄) FF s₃) FF s₂) FF s₁) FF s)
    (n:Nat) (h:I n s):codeAny (model prog w) A (.compLoop (.ListComp elt gens scope pos) k it acc env) R s:=by
  refine codeAny_loop rfl I (fun n s hI=>?_) n h
  show wpAny _ _ ((compTurn (.ListComp elt gens scope pos) k it acc env).onRaise (fun x=>do noteFrame x env;theTreesLotGoes x)) _ _ s
  refine wpAny_noted ?_
  rw [heq]
  refine wpAny_noRaise ?_
  refine wpAny_bind (wpAny_standAt (wpAny_bind (thn (turn n s hI) fun r s₁ h₁=>?_)))
  cases r with
  | none=>exact wpAny_pure h₁
  | some v =>
    refine wpAny_bind (thn h₁ fun _ s₂ h₂=>?_)
    exact wpAny_bind (thn h₂ fun _ s₃ h₃=>wpAny_bind (thn h₃ fun _ s₄ h₄=>wpAny_pure ⟨rfl,h₄⟩))
theorem zp8 (elt target iter:PySem.Expr) (gs:List Comprehension) (scope:Scope) (pos:Pos) (it acc:Value) (env:PySem.Env) :
    compTurn (.ListComp elt [⟨target,iter,[],0⟩] scope pos) 0 it acc env=(standAt iter.pos >>= fun _=>pyNext it >>= fun r=>match r with
      | none=>pure (.done .next)
      | some v=>letOwnedTupleGo target it v >>= fun _=>assign target env v >>= fun _=>(eval elt env >>= fun x=>call (.builtin "list.append") [acc,x] >>= fun _=>pure ()) >>= fun _=>again (.compLoop (.ListComp elt [⟨target,iter,[],0⟩] scope pos) 0 it acc env)):=by rfl
theorem turn_if (elt target iter c:PySem.Expr) (scope:Scope) (pos:Pos) (it acc:Value) (env:PySem.Env) :
    compTurn (.ListComp elt [⟨target,iter,[c],0⟩] scope pos) 0 it acc env=(standAt iter.pos >>= fun _=>pyNext it >>= fun r=>match r with
      | none=>pure (.done .next)
      | some v=>letOwnedTupleGo target it v >>= fun _=>assign target env v >>= fun _=>(isTrue c env (eval c env) >>= fun ok=>if ok=true then (eval elt env >>= fun x=>call (.builtin "list.append") [acc,x] >>= fun _=>pure ()) else pure ()) >>= fun _=>again (.compLoop (.ListComp elt [⟨target,iter,[c],0⟩] scope pos) 0 it acc env)):=by
  rw [compTurn_list]
  refine congrArg _ (funext fun _=>congrArg _ (funext fun r=>?_))
  cases r with
  | none=>rfl
  | some v =>
    simp only [List.forIn_cons,List.forIn_nil,if_true,bind_assoc,pure_bind]
    refine congrArg _ (funext fun _=>congrArg _ (funext fun _=>congrArg _ (funext fun ok=>?_)))
    cases ok<;>simp
theorem zfz (env:PySem.Env):∀ (ns:List (Str×NameKind)) (cs:List (Str×Addr)),(∀ y∈ns,y.2=.free->∃ c,env.cells.lookup y.1=some c)->(∀ x c,cs.lookup x=some c->env.cells.lookup x=some c)->
    ∃ cl, (forIn ns cs fun (y : Str × NameKind) (r : List (Str × Addr)) => if (y.2 == NameKind.free) = true then cellOf env y.1 >>= fun a => pure (ForInStep.yield ((y.1, a) :: r)) else pure (ForInStep.yield r) : Sem _) = pure cl /\
      (∀ x c,cl.lookup x=some c->env.cells.lookup x=some c) /\ (∀ x c,cs.lookup x=some c->∃ c',cl.lookup x=some c') /\ ∀ y∈ns,y.2=.free->∃ c,cl.lookup y.1=some c
  | [],cs,_,h2=>⟨cs,by simp,h2,fun x c e=>⟨c,e⟩,fun y hy=>nomatch hy⟩
  | (n, k) :: ns, cs, h1, h2 => by
    by_cases hk:k=.free
    · subst hk
      obtain ⟨a,ha⟩:=h1 (n,.free) List.mem_cons_self rfl
      have lk:∀ x c,((n,a)::cs).lookup x=some c->env.cells.lookup x=some c:=fun x c e=>by
        rw [List.lookup_cons] at e
        split at e
        · next q=>cases e;rw [eq_of_beq q];exact ha
        · exact h2 x c e
      obtain ⟨cl,e,p1,p2,p3⟩:=zfz env ns ((n,a)::cs) (fun y hy=>h1 y (List.mem_cons_of_mem _ hy)) lk
      refine ⟨cl,?_,p1,fun x c q=>?_,fun y hy hf=>?_⟩
      · rw [List.forIn_cons]
        have ec:cellOf env n=pure a:=by unfold cellOf;rw [ha]
        simp only [beq_self_eq_true,if_true,ec]
        exact e
      · by_cases hx:x=n
        · exact p2 x a (by rw [List.lookup_cons,hx];simp)
        · exact p2 x c (by rw [List.lookup_cons,beq_eq_false_iff_ne.mpr hx];exact q)
      · rcases List.mem_cons.mp hy with z | z
        · subst z;exact p2 n a (by simp [List.lookup_cons])
        · exact p3 y z hf
    · obtain ⟨cl,e,p1,p2,p3⟩:=zfz env ns cs (fun y hy=>h1 y (List.mem_cons_of_mem _ hy)) h2
      refine ⟨cl,?_,p1,p2,fun y hy hf=>?_⟩
      · rw [List.forIn_cons]
        have eb:(k==NameKind.free)=false:=by simpa using hk
        simp only [eb,Bool.false_eq_true,if_false]
        exact e
      · rcases List.mem_cons.mp hy with z | z
        · subst z;exact absurd hf hk
        · exact p3 y z hf
theorem znz {scope:Scope}{env:PySem.Env} (h:∀ y∈scope.names,y.2=.free->∃ c,env.cells.lookup y.1=some c) :
    ∃ cl,closureFor scope env=pure cl /\ (∀ x c,cl.lookup x=some c->env.cells.lookup x=some c) /\ ∀ y∈scope.names,y.2=.free->∃ c,cl.lookup y.1=some c:=by
  obtain ⟨cl,e,p1,_,p3⟩:=zfz env scope.names [] h (fun x c q=>nomatch q)
  exact ⟨cl,by unfold closureFor;simp only [bind_pure];exact e,p1,p3⟩
end
end LD
namespace LD
open PySem PySem.Spec PyProof.Rows L2
def zcg (X:Cx) (own bn:List Str) (scope:Scope) (cl:List (Str×Addr)) (C:Addr) (fp:List Addr) (s:Shared) (H:Hp):Cx:=
  {X with N:=own++bn,s₀:=s,H₀:=H,env:=compEnvC scope cl C X.env,outer:=X.stack,ex:=fp,fn:=fun _=>false,pn:=[],xe:=FF}
theorem mem_of_lookup {β:Type}:∀ {l:List (Str×β)}{x:Str}{k:β},l.lookup x=some k->(x,k)∈l
  | [],_,_,h=>by cases h
  | (n, b) :: r, x, k, h => by
    rw [List.lookup_cons] at h
    split at h
    · next q=>cases h;rw [eq_of_beq q];exact List.mem_cons_self
    · exact List.mem_cons_of_mem _ (mem_of_lookup h)
theorem zd4 {env:PySem.Env}:∀ {names:List (Str×NameKind)}{x:Str}{k:NameKind},
    (names.map fun (n,k)=>if (k==NameKind.free&&env.scope.kind==.function&&env.kindOf n==some .cell) then (n,NameKind.cell) else (n,k)).lookup x=some k->
    ∃ k0,(x,k0)∈names /\ names.lookup x=some k0 /\ (k=k0 \/ (k0=.free /\ k=.cell))
  | [],_,_,h=>by cases h
  | (n, k0) :: r, x, k, h => by
    have ih:=@zd4 env r x k
    have h:List.lookup x ((if (k0==NameKind.free&&env.scope.kind==.function&&env.kindOf n==some .cell)=true then (n,NameKind.cell) else (n,k0))::_)=some k:=h
    cases hx:x==n with
    | true =>
      have e:=eq_of_beq hx
      subst e
      refine ⟨k0,List.mem_cons_self,by simp [List.lookup_cons],?_⟩
      split at h
      · next c=>
        simp [List.lookup_cons] at h
        simp at c
        exact .inr ⟨c.1.1,h.symm⟩
      · simp [List.lookup_cons] at h
        exact .inl h.symm
    | false =>
      have h':List.lookup x (r.map fun (n,k)=>if (k==NameKind.free&&env.scope.kind==.function&&env.kindOf n==some .cell) then (n,NameKind.cell) else (n,k))=some k:=by
        split at h<;>simpa [List.lookup_cons,hx] using h
      obtain ⟨k1,h1,h2,h3⟩:=ih h'
      exact ⟨k1,List.mem_cons_of_mem _ h1,by simp [List.lookup_cons,hx];exact h2,h3⟩
theorem zhw {α β:Type}{R:α->β->Prop}:∀ {l:List α}{r:List β}{i:Nat}{x:α},Paired R l r->l[i]?=some x->∃ y,r[i]?=some y /\ R x y
  | _,_,_,_,.nil,e=>by simp at e
  | _,_,0,_,.cons p _,e=>by simp at e;subst e;exact ⟨_,rfl,p⟩
  | _, _, i + 1, x, .cons _ t, e => by
    obtain ⟨y,h1,h2⟩:=zhw (i:=i) (x:=x) t (by simpa using e)
    exact ⟨y,by simpa using h1,h2⟩
structure zdo (X:Cx) (own bn:List Str) (scope:Scope):Prop where
  kind:scope.kind=.function
  nocell:∀ y∈scope.names,y.2≠.cell
  loc:∀ y∈scope.names,y.2=.local->scope.names.lookup y.1=some .local
  free:∀ y∈scope.names,y.2=.free->X.env.kindOf y.1=some .cell \/ X.env.kindOf y.1=some .free
  dis:Paired (fun b x=>(b=x /\ scope.names.lookup x≠some .local) \/ scope.names.lookup b=none) bn X.N
section
variable {X:Cx}{pins:List (Addr×Obj)}{σ:L2.St}{H:Hp}{s:Shared}{fp:List Addr}{scope:Scope}{cl:List (Str×Addr)}{own bn:List Str}
structure Cl (X:Cx) (scope:Scope) (cl:List (Str×Addr)):Prop where
  sub:∀ x c,cl.lookup x=some c->X.env.cells.lookup x=some c
  has:∀ y∈scope.names,y.2=.free->∃ c,cl.lookup y.1=some c
theorem zt1 (I:Inv X pins σ H s) (S:zdo X own bn scope) (hcl:Cl X scope cl) (hfp:∀ b∈fp,zdu X pins H b) (hfo:∀ b∈fp,∃ o,s.heap.get? b=some o) :
    (zcg X own bn scope cl s.heap.objs.size fp s H).Ok where
  mod:=I.ok.mod
  kind:=S.kind
  glob:=I.ok.glob
  blt:=I.ok.blt
  above:=Nat.le_refl _
  inj:=fun x y c h1 h2=>I.ok.inj x y c (hcl.sub x c h1) (hcl.sub y c h2)
  has:=fun x h=>by
    have key:∀ k,(relabel scope X.env).names.lookup x=some k->(k=.cell \/ k=.free)->∃ c,cl.lookup x=some c:=fun k hk hh=>by
      obtain ⟨k0,h1,h2,h3⟩:=zd4 hk
      have hf:k0=.free:=by
        rcases h3 with e | ⟨e,_⟩
        · rcases hh with z | z
          · exact absurd (e.symm.trans z) (S.nocell _ h1)
          · exact e.symm.trans z
        · exact e
      exact hcl.has _ h1 hf
    rcases h with h | h
    · exact key _ h (.inl rfl)
    · exact key _ h (.inr rfl)
  cab:=fun x c h=>nomatch h
  hd:=I.ok.hd
  frames:=I.ok.frames
  stk:=.inl rfl
  exf := fun b hb => ⟨fun e => by
      obtain ⟨o,ho⟩:=hfo b hb
      exact absurd (Heap.lt_size ho) (by rw [e];exact Nat.lt_irrefl _),fun x c e=>(hfp b hb).2.2.2.2.1 x c (hcl.sub x c e)⟩
  bs:=fun b o e=>I.bs b o e
  bsz:=Nat.le_trans I.ok.bsz I.sz
  noex:=fun b o e hb=>by
    rcases (hfp b hb).2.2.2.1 with z | z
    · exact I.ok.noex b o e z
    · exact absurd (Nat.lt_of_lt_of_le (Heap.lt_size e) (Nat.le_trans I.ok.bsz z)) (Nat.lt_irrefl _)
  exfs:=fun b hb hx=>by
    rcases List.mem_cons.mp (I.stkSub b hx) with e | e
    · exact (hfp b hb).2.1 e
    · exact (hfp b hb).2.2.1 e
  funs:=I.stack
  frf:=fun b hb=>I.stkFree b hb
theorem zra (I:Inv X pins σ H s) (S:zdo X own bn scope) (hcl:Cl X scope cl) (hfp:∀ b∈fp,zdu X pins H b) (hfo:∀ b∈fp,∃ o,s.heap.get? b=some o) {h':Heap}{t':Nat}{m:Str->Option Value}
    (hn:h'.Ns s.heap.objs.size m) (hk:∀ b o,s.heap.get? b=some o->h'.get? b=some o) :
    Inv (zcg X own bn scope cl s.heap.objs.size fp s H) [] (List.replicate own.length none++σ) H {s with heap:=h',toks:=t'} where
  ok:=zt1 I S hcl hfp hfo
  os:=rfl
  bare:=I.bare
  base:=Un.kept hk
  loc:=by
    refine ⟨m,hn,fun i x v e1 e2 hv=>?_⟩
    have e1:(own++bn)[i]?=some x:=e1
    have hi:own.length≤i:=by
      by_cases q:i < own.length
      · rw [List.getElem?_append_left (by simpa using q),List.getElem?_replicate] at e2
        simp [q] at e2
      · omega
    rw [List.getElem?_append_right hi] at e1
    rw [List.getElem?_append_right (by simpa using hi)] at e2
    simp only [List.length_replicate] at e2
    have hx:X.N[i - own.length]?=some x /\ scope.names.lookup x≠some .local:=by
      rcases zhw S.dis e1 with ⟨y,h1,⟨h2,h3⟩ | h2⟩
      · subst h2;exact ⟨h1,h3⟩
      · exfalso
        have no:∀ k,(relabel scope X.env).names.lookup x≠some k:=fun k hk=>by
          obtain ⟨k0,_,h3,_⟩:=zd4 hk
          rw [h2] at h3;cases h3
        rcases hv with z | z | z
        · exact no _ z
        · exact no _ z
        · exact no _ z
    have key:∀ k,(relabel scope X.env).names.lookup x=some k->(k=.local \/ k=.cell \/ k=.free)->∃ c,(k=.cell \/ k=.free) /\ cl.lookup x=some c /\ (X.env.kindOf x=some .cell \/ X.env.kindOf x=some .free):=fun k hk2 hh=>by
      obtain ⟨k0,h1,h2,h3⟩:=zd4 hk2
      have nl:k0≠.local:=fun e=>hx.2 (by rw [h2,e])
      have hf:k0=.free:=by
        rcases h3 with e | ⟨e,_⟩
        · rcases hh with z | z | z
          · exact absurd (e.symm.trans z) nl
          · exact absurd (e.symm.trans z) (S.nocell _ h1)
          · exact e.symm.trans z
        · exact e
      obtain ⟨c,hc⟩:=hcl.has _ h1 hf
      refine ⟨c,?_,hc,S.free _ h1 hf⟩
      rcases hh with z | z | z
      · rcases h3 with e | ⟨_,e⟩
        · rw [hf] at e;rw [e] at z;cases z
        · rw [e] at z;cases z
      · exact .inl z
      · exact .inr z
    have fin:∀ k,(relabel scope X.env).names.lookup x=some k->(k=.local \/ k=.cell \/ k=.free)->∃ u,RelV v u /\ Look (compEnvC scope cl s.heap.objs.size X.env) h' m x u:=fun k hk2 hh=>by
      obtain ⟨c,h1,h2,h3⟩:=key k hk2 hh
      obtain ⟨m0,_,hl⟩:=I.loc
      obtain ⟨u,r,l⟩:=hl _ x v hx.1 e2 (.inr h3)
      refine ⟨u,r,.inr ⟨?_,c,h2,?_⟩⟩
      · rcases h1 with z | z
        · subst z;exact .inl hk2
        · subst z;exact .inr hk2
      · rcases l with ⟨z,_⟩ | ⟨_,c',hc',hcell⟩
        · rcases h3 with q | q
          · rw [z] at q;cases q
          · rw [z] at q;cases q
        · rw [hcl.sub x c h2] at hc';cases hc'
          obtain ⟨o,ho,hd⟩:=hcell
          exact ⟨o,hk _ _ ho,hd⟩
    rcases hv with z | z | z
    · exact fin _ z (.inl rfl)
    · exact fin _ z (.inr (.inl rfl))
    · exact fin _ z (.inr (.inr rfl))
  cell:=fun x c e=>by
    obtain ⟨v,o,ho,hd⟩:=I.cell x c (hcl.sub x c e)
    exact ⟨v,o,hk _ _ ho,hd⟩
  free:=I.hok.fresh (Nat.le_refl _)
  freeC:=fun x c e=>I.freeC x c (hcl.sub x c e)
  pin:=fun p hp=>nomatch hp
  hok:=I.hok.kept hk
  len:=by
    show (List.replicate own.length none++σ).length=(own++bn).length
    have:=Paired.length S.dis
    simp [I.len,this]
theorem comp_back (I:Inv X pins σ H s) (hfp:∀ b∈fp,zdu X pins H b) {pins':List (Addr×Obj)}{σ':L2.St}{H':Hp}{s':Shared}{C:Addr} (I':Inv (zcg X own bn scope cl C fp s H) pins' σ' H' s'):Inv X pins σ H' s':=
  I.call' (ch:=fp) I'.os I'.base I'.hok I'.bare fun b hb=>⟨(hfp b hb).2.2.2.1,(hfp b hb).2.1,(hfp b hb).2.2.2.2.1,(hfp b hb).2.2.2.2.2⟩
theorem zpk (I:Inv X pins σ H s) {σ':L2.St}{H':Hp}{s':Shared} (hf:H' s.heap.objs.size=none) (I':Inv X pins σ' H' s') {h'':Heap} (hs:Heap.SameBut s.heap.objs.size s'.heap h''):Inv X pins σ' H' {s' with heap:=h''}:=
  I'.turned (t':=s'.toks) (fun b o hb e=>(hs.2 b hb).trans e) hf (Nat.ne_of_gt I.lt) (.inr I.sz) (fun x c e z=>by
    obtain ⟨v,q⟩:=I.cell x c e
    exact absurd q.lt (by rw [z];exact Nat.lt_irrefl _)) fun p hp z=>absurd (Heap.lt_size (I.pin p hp).1) (by rw [z];exact Nat.lt_irrefl _)
end
end LD
namespace LD
open PySem PySem.Spec PyProof.Rows L2
structure zdn (a:Addr) (μ:Mu) (H:Hp) (μ':Mu) (H':Hp):Prop extends ExtW μ H μ' H' where
  pr:μ'.priv=μ.priv
  pk:∀ b∈μ.priv,b≠a->H' b=H b
theorem zdn.refl {a:Addr}{μ:Mu}{H:Hp}:zdn a μ H μ H:=⟨.refl,rfl,fun _ _ _=>rfl⟩
theorem zdn.trans {a:Addr}{μ μ1 μ2:Mu}{H H1 H2:Hp} (x:zdn a μ H μ1 H1) (y:zdn a μ1 H1 μ2 H2):zdn a μ H μ2 H2:=
  ⟨x.toExtW.trans y.toExtW,y.pr.trans x.pr,fun b hb n=>(y.pk b (by rw [x.pr];exact hb) n).trans (x.pk b hb n)⟩
theorem Ext.toD {a:Addr}{μ μ':Mu}{H H':Hp} (x:Ext μ H μ' H'):zdn a μ H μ' H':=⟨x.toExtW,x.pr,fun b hb _=>x.pk b hb⟩
def slots:Tgt->List Nat
  | .one i=>[i]
  | .tup l=>l
def Clear (W:List Nat) (ρ:Env):Prop:=∀ i∈W,∀ d,ρ[i]?≠some (some d)
section
variable {fa:Fa}{K:PySem.W.Frag}{μ μ':Mu}{H H':Hp}{σ:L2.St}{ρ ρ1:Env}{M:Mem}{a:Addr}
theorem za4.weak (h:za4 fa K μ H σ ρ1) (hl:ρ1.length=ρ.length) (w:∀ (i:Nat) d,ρ[i]?=some (some d)->ρ1[i]?=some (some d)):za4 fa K μ H σ ρ:=
  ⟨h.len.trans hl,fun i d e=>h.at' i d (w i d e)⟩
theorem zhn:∀ {l:List Nat}{ds:List D}{ρ ρ1:Env},zfd l ds ρ=some ρ1->ρ1.length=ρ.length /\ ∀ i,i∉l->ρ1[i]?=ρ[i]?
  | [],[],ρ,ρ1,h=>by cases h;exact ⟨rfl,fun _ _=>rfl⟩
  | _::_,[],_,_,h=>by cases h
  | [],_::_,_,_,h=>by cases h
  | j :: l, d :: ds, ρ, ρ1, h => by
    obtain ⟨h1,h2⟩:=zhn (l:=l) (ds:=ds) h
    refine ⟨by simpa using h1,fun i hi=>?_⟩
    rw [h2 i (fun z=>hi (List.mem_cons_of_mem _ z)),List.getElem?_set_ne (fun z=>hi (by rw [z];exact List.mem_cons_self))]
theorem zjz {t:Tgt}{d:D} (h:zcj t d ρ=some ρ1):ρ1.length=ρ.length /\ ∀ i,i∉slots t->ρ1[i]?=ρ[i]?:=by
  cases t with
  | one j =>
    have h:some (ρ.set j (some d))=some ρ1:=h
    cases h
    exact ⟨by simp,fun i hi=>List.getElem?_set_ne (fun z=>hi (by rw [z];exact List.mem_cons_self))⟩
  | tup l =>
    cases d with
    | tup ds=>exact zhn h
    | _=>cases h
theorem za4.unbind {t:Tgt}{d:D} (h:zcj t d ρ=some ρ1) (c:Clear (slots t) ρ) (r:za4 fa K μ H σ ρ1):za4 fa K μ H σ ρ:=by
  obtain ⟨h1,h2⟩:=zjz h
  refine r.weak h1 fun i d e=>?_
  by_cases hi:i∈slots t
  · exact absurd e (c i hi d)
  · rw [h2 i hi];exact e
theorem RelM.writeP (h:RelM fa K μ H M) {ws vs:List V} (e:a∈μ.priv) (hH:H a=some (.lst vs)):RelM fa K μ (upd H a (.lst ws)) M:=by
  have x:ExtW μ H μ (upd H a (.lst ws)):=ExtW.write hH (.inr e)
  refine ⟨fun k ds q=>?_,h.out,h.inj,fun b hb=>⟨?_,(h.pv b hb).2⟩⟩
  · obtain ⟨b,us,h1,h2,h3⟩:=h.at' k ds q
    have nb:b≠a:=fun z=>(h.pv a e).2 k (by rw [h1,z])
    exact ⟨b,us,h1,by rw [zar nb];exact h2,h3.extW x⟩
  · by_cases hb':b=a
    · subst hb';exact ⟨ws,zbg⟩
    · obtain ⟨us,q⟩:=(h.pv b hb).1
      exact ⟨us,by rw [zar hb'];exact q⟩
theorem zdn.writeP {ws vs:List V} (e:a∈μ.priv) (hH:H a=some (.lst vs)):zdn a μ H μ (upd H a (.lst ws)):=
  ⟨ExtW.write hH (.inr e),rfl,fun b _ n=>by rw [zar n]⟩
end
def WB (fa:Fa) (K:PySem.W.Frag) (a:Addr) (μ:Mu) (H:Hp) (ρ:Env) (Q:L2.St->Hp->Prop) (acc:List D) (M':Mem):Prop:=
  ∀ σ' H' μ' vs',zdn a μ H μ' H'->za4 fa K μ' H' σ' ρ->RelM fa K μ' H' M'->H' a=some (.lst vs')->zat fa K μ' H' acc vs'->Q σ' H'
theorem WB.ext {fa:Fa}{K:PySem.W.Frag}{a:Addr}{μ μ1:Mu}{H H1:Hp}{ρ:Env}{Q:L2.St->Hp->Prop}{acc:List D}{M':Mem} (h:WB fa K a μ H ρ Q acc M') (x:zdn a μ H μ1 H1):WB fa K a μ1 H1 ρ Q acc M':=
  fun σ' H' μ' vs' y e m h1 h2=>h σ' H' μ' vs' (x.trans y) e m h1 h2
def DB (fa:Fa) (X:Cx) (a:Addr) (W:List Nat) (body:Sem Unit) (g:Env->List D->Mem->Res (List D)):Prop:=
  ∀ (pins : List (Addr × Obj)) (s : Shared) (σ : L2.St) (H : Hp) (Q : L2.St -> Hp -> Prop) (μ : Mu) (ρ : Env) (M : Mem) (acc : List D) (vs : List V), Inv X pins σ H s -> za4 fa X.K μ H σ ρ -> RelM fa X.K μ H M -> Clear W ρ -> a ∈ μ.priv -> H a = some (.lst vs) -> zat fa X.K μ H acc vs ->
    okE (g ρ acc M) (WB fa X.K a μ H ρ Q)->wpAny (model X.prog X.w) X.A body (fun _ s'=>∃ σ' H',Inv X pins σ' H' s' /\ Q σ' H') X.xe s
def zbm (ge:Env->Mem->Res D):Env->List D->Mem->Res (List D):=fun ρ acc M=>(ge ρ M).bind fun x M=>if acc.length < sz then .ok (acc++[x]) M else .bad
def gIf (gc:Env->Mem->Res Bool) (g:Env->List D->Mem->Res (List D)):Env->List D->Mem->Res (List D):=fun ρ acc M=>(gc ρ M).bind fun k M=>if k then g ρ acc M else .ok acc M
def zdp (t:Tgt) (g:Env->List D->Mem->Res (List D)) (ρ:Env):List D->D->Mem->Res (List D):=fun acc d M=>(ofO M (zcj t d ρ)).bind fun ρ1 M=>g ρ1 acc M
def gGen (t:Tgt) (gw:Env->Mem->Res Walk) (g:Env->List D->Mem->Res (List D)):Env->List D->Mem->Res (List D):=fun ρ acc M=>(gw ρ M).bind fun w M=>zdh (zdp t g ρ) w acc M
section
variable {fa:Fa}{X:Cx}{a:Addr}
theorem zpi {elt:PySem.Expr}{ge:Env->Mem->Res D} (he:DE fa X elt ge):DB fa X a [] (eval elt X.env >>= fun x=>call (.builtin "list.append") [.ref a,x] >>= fun _=>pure ()) (zbm ge):=by
  intro pins s σ H Q μ ρ M acc vs I hE hM hc ha hH hr h
  obtain ⟨x,M1,e,q⟩:=za5 h
  split at q
  · next hz=>
    have q:WB fa X.K a μ H ρ Q (acc++[x]) M1:=q
    refine wpAny_bind (thn (he pins s σ H (fun v H1=>∃ μ1,Ext μ H μ1 H1 /\ RelM fa X.K μ1 H1 M1 /\ Rep fa X.K μ1 H1 x v) I ⟨μ,ρ,M,hE,hM,?_⟩) fun u s1 ⟨v,H1,I1,rv,μ1,x1,m1,r1⟩=>?_)
    · rw [e];exact fun v H1 μ1 x1 m1 r1=>⟨μ1,x1,m1,r1⟩
    have hH1:H1 a=some (.lst vs):=by rw [x1.pk a ha];exact hH
    have ha1:a∈μ1.priv:=by rw [x1.pr];exact ha
    have hl:vs.length < sizeLine:=by rw [hr.length,<- zc1];exact hz
    refine wpAny_bind (thn (zpa pins s1 σ H1 (.ref a) [v] (.ref a) [u] (fun _ H2=>H2=upd H1 a (.lst (vs++[v]))) I1 rfl (.cons rv .nil) ⟨a,vs,v,rfl,rfl,hH1,hl,rfl⟩) fun _ s2 ⟨_,H2,I2,_,e2⟩=>wpAny_pure ⟨σ,H2,I2,?_⟩)
    subst e2
    have xd:zdn a μ1 H1 μ1 (upd H1 a (.lst (vs++[v]))):=zdn.writeP ha1 hH1
    exact q σ _ μ1 (vs++[v]) (x1.toD.trans xd) ((hE.ext x1).extW xd.toExtW) (m1.writeP ha1 hH1) zbg (((hr.ext x1).append (.one r1)).extW xd.toExtW)
  · exact q.elim
theorem db_if {c:PySem.Expr}{gc:Env->Mem->Res Bool}{W:List Nat}{body:Sem Unit}{g:Env->List D->Mem->Res (List D)} (hc:DT fa X c gc) (hb:DB fa X a W body g) :
    DB fa X a W (isTrue c X.env (eval c X.env) >>= fun ok=>if ok=true then body else pure ()) (gIf gc g):=by
  intro pins s σ H Q μ ρ M acc vs I hE hM hw ha hH hr h
  obtain ⟨k,M1,e,q⟩:=za5 h
  refine wpAny_bind (thn (hc pins s σ H (fun b H1=>b=k /\ ∃ μ1,Ext μ H μ1 H1 /\ RelM fa X.K μ1 H1 M1) I ⟨μ,ρ,M,hE,hM,?_⟩) fun b s1 ⟨H1,I1,eb,μ1,x1,m1⟩=>?_)
  · rw [e];exact fun H1 μ1 x1 m1=>⟨rfl,μ1,x1,m1⟩
  subst eb
  have hH1:H1 a=some (.lst vs):=by rw [x1.pk a ha];exact hH
  have ha1:a∈μ1.priv:=by rw [x1.pr];exact ha
  cases b with
  | true =>
    rw [if_pos rfl]
    exact hb pins s1 σ H1 Q μ1 ρ M1 acc vs I1 (hE.ext x1) m1 hw ha1 hH1 (hr.ext x1) (zbv q fun _ _ w=>w.ext x1.toD)
  | false =>
    rw [if_neg Bool.false_ne_true]
    have q:WB fa X.K a μ H ρ Q acc M1:=q
    exact wpAny_pure ⟨σ,H1,I1,q σ H1 μ1 vs x1.toD (hE.ext x1) m1 hH1 (hr.ext x1)⟩
theorem zt2 {elt:PySem.Expr}{gens:List Comprehension}{scope:Scope}{pos p:Pos}{k:Nat}{tg:PySem.Expr}{body:Sem Unit}{t:Tgt}{W:List Nat}{g:Env->List D->Mem->Res (List D)}{it:Addr}{fp:List Addr}{tn:Nat->Heap->Prop}{J:It}
    (heq:compTurn (.ListComp elt gens scope pos) k (.ref it) (.ref a) X.env=(standAt p >>= fun _=>pyNext (.ref it) >>= fun r=>match r with
      | none=>pure (.done .next)
      | some v=>letOwnedTupleGo tg (.ref it) v >>= fun _=>assign tg X.env v >>= fun _=>body >>= fun _=>again (.compLoop (.ListComp elt gens scope pos) k (.ref it) (.ref a) X.env)))
    (hx:X.xe=FF) (hcalm:X.calm=true) (T:Turn X.prog X.w X.K tg J fp it tn) (hg:PG X tg (gT fa X.K t)) (hb:DB fa X a W body g) (hW:∀ i∈W,i∉slots t)
    {pins:List (Addr×Obj)}{s:Shared}{σ:L2.St}{H:Hp}{Q:L2.St->Hp->Prop}{μ:Mu}{ρ:Env}{M:Mem}{acc:List D}{vs:List V}{w:Walk} (I:Inv X pins σ H s) (st:tn 0 s.heap) (hf:∀ b∈fp,zdu X pins H b) (hE:za4 fa X.K μ H σ ρ) (hM:RelM fa X.K μ H M)
    (hcl:Clear (slots t++W) ρ) (ha:a∈μ.priv) (hH:H a=some (.lst vs)) (hr:zat fa X.K μ H acc vs) (wk:zc9 fa X.K μ H w J) (q:okE (zdh (zdp t g ρ) w acc M) (WB fa X.K a μ H ρ Q)) :
    codeAny (model X.prog X.w) X.A (.compLoop (.ListComp elt gens scope pos) k (.ref it) (.ref a) X.env) (fun r s'=>r=.ok .next /\ ∃ σ' H',Inv X pins σ' H' s' /\ Q σ' H') s:=by
  have stat:∀ {H':Hp},(∀ b∈fp,H' b=none)->∀ b∈fp,zdu X pins H' b:=fun hn b hb=>⟨hn b hb,(hf b hb).2⟩
  have clt:Clear (slots t) ρ:=fun i hi=>hcl i (List.mem_append_left _ hi)
  have clW:∀ d ρ1,zcj t d ρ=some ρ1->Clear W ρ1:=fun d ρ1 e i hi d' z=>by
    rw [(zjz e).2 i (hW i hi)] at z
    exact hcl i (List.mem_append_right _ hi) d' z
  let P:Nat->Nat->Shared->Prop:=fun m i s'=>∃ σ' H' μ' M' acc' vs',Inv X pins σ' H' s' /\ tn i s'.heap /\ (∀ b∈fp,H' b=none) /\ zdn a μ H μ' H' /\ za4 fa X.K μ' H' σ' ρ /\ RelM fa X.K μ' H' M' /\ H' a=some (.lst vs') /\ zat fa X.K μ' H' acc' vs' /\
    okE (zda (zdp t g ρ) w m i acc' M') (WB fa X.K a μ H ρ Q)
  have P0:∃ m,P m 0 s:=⟨_,σ,H,μ,M,acc,vs,I,st,fun b hb=>(hf b hb).1,.refl,hE,hM,hH,hr,q⟩
  obtain ⟨m0,P0⟩:=P0
  have hturn:∀ (n:Nat) (i:Nat) (s3:Shared),P n i s3->wpAny (model X.prog X.w) X.A (pyNext (.ref it)) (fun r s₁=>match r with
      | none=>(∃ σ' H',Inv X pins σ' H' s₁ /\ Q σ' H')
      | some v=>wpAny (model X.prog X.w) X.A (letOwnedTupleGo tg (.ref it) v) (fun _ s₂=>wpAny (model X.prog X.w) X.A (assign tg X.env v) (fun _ s₃=>wpAny (model X.prog X.w) X.A body (fun _ s₄=>∃ m,m < n /\ P m (i+1) s₄) FF s₃) FF s₂) FF s₁) FF s3:=by
    rintro n i s3 ⟨σ3,H3,μ3,M3,acc3,vs3,I3,st3,fr3,x3,hE3,hM3,hH3,hr3,q3⟩
    have ha3:a∈μ3.priv:=by rw [x3.pr];exact ha
    have one:∀ (d:D) (rest:List D->Mem->Res (List D)) (next:List D->Mem->Prop),J.go i H3->(∀ x H',J.yld i H3 x H'->Ext μ3 H3 μ3 H' /\ RelM fa X.K μ3 H' M3 /\ Rep fa X.K μ3 H' d x)->okE ((zdp t g ρ acc3 d M3).bind rest) (WB fa X.K a μ H ρ Q)->
        (∀ σ' H' μ' M' acc' vs' s',Inv X pins σ' H' s'->tn (i+1) s'.heap->(∀ b∈fp,H' b=none)->zdn a μ H μ' H'->za4 fa X.K μ' H' σ' ρ->RelM fa X.K μ' H' M'->H' a=some (.lst vs')->zat fa X.K μ' H' acc' vs'->okE (rest acc' M') (WB fa X.K a μ H ρ Q)->∃ m,m < n /\ P m (i+1) s')->
        wpAny (model X.prog X.w) X.A (pyNext (.ref it)) (fun r s₁=>match r with
          | none=>(∃ σ' H',Inv X pins σ' H' s₁ /\ Q σ' H')
          | some v=>wpAny (model X.prog X.w) X.A (letOwnedTupleGo tg (.ref it) v) (fun _ s₂=>wpAny (model X.prog X.w) X.A (assign tg X.env v) (fun _ s₃=>wpAny (model X.prog X.w) X.A body (fun _ s₄=>∃ m,m < n /\ P m (i+1) s₄) FF s₃) FF s₂) FF s₁) FF s3:=by
      intro d rest next go yl qd fin
      refine thn (T.item X rfl rfl rfl hcalm i pins s3 σ3 H3 FF I3 (stat fr3) st3 go) fun r s4 ⟨u,hr4,h4⟩=>?_
      subst hr4
      refine thn h4 fun _ s5 ⟨x,H5,I5,r5,y5,st5,fr5⟩=>?_
      obtain ⟨x5,hM5,rd⟩:=yl x H5 y5
      have I5':=I5.pinned (stat fr5) (T.obj _ _ st5)
      obtain ⟨acc6,M6,e6,q6⟩:=za5 qd
      obtain ⟨ρ1,M7,e7,e8⟩:=zic e6
      cases eb:zcj t d ρ with
      | none=>rw [eb] at e7;cases e7
      | some ρ2 =>
        rw [eb] at e7
        cases e7
        have hg':=hg _ s5 σ3 H5 x u (fun σ' H'=>H'=H5 /\ za4 fa X.K μ3 H5 σ' ρ1) I5' r5 ⟨μ3,ρ,_,d,ρ1,hE3.ext x5,hM5,rd,eb,fun σ1 h1=>⟨rfl,h1⟩⟩
        rw [hx] at hg'
        refine thn hg' fun _ s6 ⟨σ6,H6,I6,eH,hE6⟩=>?_
        subst eH
        have hH6:H6 a=some (.lst vs3):=by rw [x5.pk a ha3];exact hH3
        have hb':=hb _ s6 σ6 H6 (fun σ' H'=>∃ μ' vs',zdn a μ3 H6 μ' H' /\ za4 fa X.K μ' H' σ' ρ1 /\ RelM fa X.K μ' H' M6 /\ H' a=some (.lst vs') /\ zat fa X.K μ' H' acc6 vs') μ3 ρ1 _ acc3 vs3 I6 hE6 hM5 (clW d ρ1 eb) ha3 hH6 (hr3.ext x5) (by
          rw [e8];exact fun σ' H' μ' vs' z1 z2 z3 z4 z5=>⟨μ',vs',z1,z2,z3,z4,z5⟩)
        rw [hx] at hb'
        refine thn hb' fun _ s7 ⟨σ7,H7,I7,μ7,vs7,x7,hE7,hM7,hH7,hr7⟩=>?_
        refine fin σ7 H7 μ7 M6 acc6 vs7 s7 I7.unpinned (T.keep _ _ _ st5 fun b hb o e=>(I7.pin (b,o) (List.mem_append_right _ (List.mem_append_right _ (zem hb e)))).1) (fun b hb=>?_) ((x3.trans x5.toD).trans x7) (hE7.unbind eb clt) hM7 hH7 hr7 q6
        obtain ⟨o,e,dd⟩:=T.obj _ _ st5 b hb
        exact (I7.pin (b,o) (List.mem_append_right _ (List.mem_append_right _ (zem hb e)))).2.1
    have stop:J.stop i H3->okE (.ok acc3 M3) (WB fa X.K a μ H ρ Q)->wpAny (model X.prog X.w) X.A (pyNext (.ref it)) (fun r s₁=>match r with
          | none=>(∃ σ' H',Inv X pins σ' H' s₁ /\ Q σ' H')
          | some v=>wpAny (model X.prog X.w) X.A (letOwnedTupleGo tg (.ref it) v) (fun _ s₂=>wpAny (model X.prog X.w) X.A (assign tg X.env v) (fun _ s₃=>wpAny (model X.prog X.w) X.A body (fun _ s₄=>∃ m,m < n /\ P m (i+1) s₄) FF s₃) FF s₂) FF s₁) FF s3:=fun hs q=>by
      refine thn (T.done X rfl rfl rfl hcalm i pins s3 σ3 H3 FF I3 (stat fr3) st3 hs) fun r s4 ⟨hr4,I4⟩=>?_
      subst hr4
      have q:WB fa X.K a μ H ρ Q acc3 M3:=q
      exact ⟨σ3,H3,I4,q σ3 H3 μ3 vs3 x3 hE3 hM3 hH3 hr3⟩
    cases n with
    | zero=>exact q3.elim
    | succ n =>
      unfold zda at q3
      cases e2:w M3 with
      | none=>rw [e2] at q3;exact q3.elim
      | some ds =>
        rw [e2] at q3
        dsimp only at q3
        obtain ⟨go,stp⟩:=wk μ3 H3 M3 ds x3.toExtW hM3 e2
        cases ed:ds[i]? with
        | none =>
          rw [ed] at q3
          exact stop (stp i (List.getElem?_eq_none_iff.mp ed)) q3
        | some d =>
          rw [ed] at q3
          obtain ⟨g1,g2⟩:=go i d ed
          refine one d (zda (zdp t g ρ) w n (i+1)) (fun _ _=>True) g1 g2 q3 ?_
          intro σ' H' μ' M' acc' vs' s' z1 z2 z3 z4 z5 z6 z7 z8 z9
          exact ⟨n,by omega,σ',H',μ',M',acc',vs',z1,z2,z3,z4,z5,z6,z7,z8,z9⟩
  refine zpj heq (fun n s'=>∃ i,P n i s') (fun n s3 ⟨i,h3⟩=>?_) m0 ⟨0,P0⟩
  refine thn (hturn n i s3 h3) fun r s1 h=>?_
  cases r with
  | none=>exact ⟨rfl,h⟩
  | some v=>exact thn h fun _ s2 h=>thn h fun _ s3 h=>thn h fun _ s4 ⟨m,hm,h⟩=>⟨m,hm,i+1,h⟩
end
end LD
namespace LD
open PySem PySem.Spec PyProof.Rows L2
section
variable {prog:Program}{w:World}{A:Around}{s:Shared}{R:Result->Shared->Prop}
end
section
variable {fa:Fa}{X:Cx}{a:Addr}
end
end LD
namespace LD
open PySem PySem.Spec PyProof.Rows L2
section
variable {fa:Fa}{K:PySem.W.Frag}{μ1 μ':Mu}{H1 H':Hp}{M1 M':Mem}{a:Addr}
def muP (μ:Mu) (a:Addr):Mu:=⟨μ.pub,a::μ.priv⟩
theorem zf9 (h:RelM fa K μ1 H1 M1) (ha:H1 a=none) (o:HO):ExtW μ1 H1 (muP μ1 a) (upd H1 a o):=by
  have x:ExtW μ1 H1 μ1 (upd H1 a o):=(Ext.alloc h ha).toExtW
  refine ⟨x.mu,x.tups,fun b vs e n=>⟨(x.lsts b vs e n).1,fun z=>?_⟩,x.frzs,x.exts⟩
  rcases z with z | z
  · exact n (.inl z)
  · rcases List.mem_cons.mp z with z | z
    · subst z;rw [ha] at e;cases e
    · exact n (.inr z)
theorem zoz (h:RelM fa K μ1 H1 M1) (ha:H1 a=none) (vs:List V):RelM fa K (muP μ1 a) (upd H1 a (.lst vs)) M1:=by
  have x:=zf9 h ha (.lst vs)
  refine ⟨fun k ds e=>?_,h.out,h.inj,fun b hb=>?_⟩
  · obtain ⟨b,ws,h1,h2,h3⟩:=h.at' k ds e
    exact ⟨b,ws,h1,by rw [zar (zay h2 ha)];exact h2,h3.extW x⟩
  · rcases List.mem_cons.mp hb with z | z
    · subst z
      exact ⟨⟨vs,zbg⟩,fun k e=>by
        obtain ⟨_,_,_,q,_⟩:=h.mu_lt e
        rw [ha] at q;cases q⟩
    · obtain ⟨⟨ws,q⟩,n⟩:=h.pv b z
      exact ⟨⟨ws,by rw [zar (zay q ha)];exact q⟩,n⟩
theorem zsw {m:Bool}{acc:List D}{vs:List V}{Q:VK} (h:RelM fa K μ1 H1 M1) (ha:H1 a=none) (x:zdn a (muP μ1 a) (upd H1 a (.lst [])) μ' H') (hM:RelM fa K μ' H' M') (hH:H' a=some (.lst vs)) (hr:zat fa K μ' H' acc vs)
    (q:okE (zbh m acc M') (zbb fa K μ1 H1 Q)):Q (.ref a) H':=by
  have na:a∉μ1.priv:=fun z=>h.pne ha z rfl
  have hp:μ'.priv=a::μ1.priv:=x.pr
  have nk:∀ k,μ'.pub k≠some a:=(hM.pv a (by rw [hp];exact List.mem_cons_self)).2
  have x0:=zf9 h ha (.lst [])
  have xe:Ext μ1 H1 ⟨μ'.pub,μ1.priv⟩ H':=by
    refine ⟨⟨fun k b e=>x.mu k b e,fun b ws e=>x.tups b ws (x0.tups b ws e),fun b ws e n=>?_,fun b ob u e=>x.frzs b ob u (x0.frzs b ob u e),fun b o i e=>x.exts b o i (x0.exts b o i e)⟩,rfl,fun b hb=>?_⟩
    · obtain ⟨z1,z2⟩:=x0.lsts b ws e n
      obtain ⟨z3,z4⟩:=x.lsts b ws z1 z2
      refine ⟨z3,fun z=>z4 ?_⟩
      rcases z with z | z
      · exact .inl z
      · exact .inr (by rw [hp];exact List.mem_cons_of_mem _ z)
    · have nb:b≠a:=fun e=>na (by rw [<- e];exact hb)
      rw [x.pk b (List.mem_cons_of_mem _ hb) nb,zar nb]
  have xw:ExtW μ' H' ⟨μ'.pub,μ1.priv⟩ H':=⟨fun _ _ e=>e,fun _ _ e=>e,fun b ws e n=>⟨e,fun z=>n (z.elim .inl fun z=>.inr (by rw [hp];exact List.mem_cons_of_mem _ z))⟩,fun _ _ _ e=>e,fun _ _ _ e=>e⟩
  have me:RelM fa K ⟨μ'.pub,μ1.priv⟩ H' M':=⟨fun k ds e=>let ⟨b,ws,h1,h2,h3⟩:=hM.at' k ds e;⟨b,ws,h1,h2,h3.extW xw⟩,hM.out,hM.inj,fun b hb=>hM.pv b (by rw [hp];exact List.mem_cons_of_mem _ hb)⟩
  have re:zat fa K ⟨μ'.pub,μ1.priv⟩ H' acc vs:=hr.extW xw
  have nMt:¬ (⟨μ'.pub,μ1.priv⟩:Mu).Mt a:=fun z=>z.elim (fun ⟨k,e⟩=>nk k e) na
  unfold zbh at q
  split at q
  · cases m with
    | false =>
      have q:zbb fa K μ1 H1 Q (.lst acc) M':=q
      exact q (.ref a) H' _ xe me ⟨a,vs,rfl,⟨hH,nMt⟩,re⟩
    | true =>
      have q:zbb fa K μ1 H1 Q (.cell M'.length) (M'++[acc]):=q
      have pc:∀ k b,(zdr ⟨μ'.pub,μ1.priv⟩ M'.length a).pub k=some b->(k=M'.length /\ b=a) \/ (k≠M'.length /\ μ'.pub k=some b):=fun k b e=>by
        have e:(if k=M'.length then some a else μ'.pub k)=some b:=e
        split at e
        · next z=>cases e;exact .inl ⟨z,rfl⟩
        · next z=>exact .inr ⟨z,e⟩
      have mc:∀ k b,μ'.pub k=some b->(zdr ⟨μ'.pub,μ1.priv⟩ M'.length a).pub k=some b:=fun k b e=>by
        show (if k=M'.length then some a else μ'.pub k)=some b
        split
        · next z=>rw [z,hM.out _ (Nat.le_refl _)] at e;cases e
        · exact e
      have ac:(zdr ⟨μ'.pub,μ1.priv⟩ M'.length a).pub M'.length=some a:=by
        show (if M'.length=M'.length then some a else _)=some a
        rw [if_pos rfl]
      have nc:∀ b,¬ μ'.Mt b->¬ (zdr ⟨μ'.pub,μ1.priv⟩ M'.length a).Mt b:=fun b n z=>by
        rcases z with ⟨k,z⟩ | z
        · rcases pc k b z with ⟨_,e⟩ | ⟨_,e⟩
          · exact n (.inr (by rw [hp,e];exact List.mem_cons_self))
          · exact n (.inl ⟨k,e⟩)
        · exact n (.inr (by rw [hp];exact List.mem_cons_of_mem _ z))
      have xc:ExtW μ' H' (zdr ⟨μ'.pub,μ1.priv⟩ M'.length a) H':=⟨mc,fun _ _ e=>e,fun b ws e n=>⟨e,nc b n⟩,fun _ _ _ e=>e,fun _ _ _ e=>e⟩
      have xe2:Ext μ1 H1 (zdr ⟨μ'.pub,μ1.priv⟩ M'.length a) H':=by
        refine ⟨⟨fun k b e=>mc k b (x.mu k b e),xe.tups,fun b ws e n=>?_,xe.frzs,xe.exts⟩,rfl,xe.pk⟩
        obtain ⟨z1,z2⟩:=x0.lsts b ws e n
        obtain ⟨z3,z4⟩:=x.lsts b ws z1 z2
        exact ⟨z3,nc b z4⟩
      have mce:RelM fa K (zdr ⟨μ'.pub,μ1.priv⟩ M'.length a) H' (M'++[acc]):=by
        refine ⟨fun k ds e=>?_,fun k hk=>?_,fun j k b e1 e2=>?_,fun b hb=>?_⟩
        · by_cases hk:k < M'.length
          · rw [List.getElem?_append_left hk] at e
            obtain ⟨b,ws,h1,h2,h3⟩:=hM.at' k ds e
            exact ⟨b,ws,mc k b h1,h2,h3.extW xc⟩
          · have hk':k=M'.length:=by
              have:=(List.getElem?_eq_some_iff.mp e).1
              simp at this;omega
            subst hk'
            rw [List.getElem?_append_right (Nat.le_refl _)] at e
            simp at e
            subst e
            exact ⟨a,vs,ac,hH,hr.extW xc⟩
        · simp at hk
          show (if k=M'.length then some a else μ'.pub k)=none
          rw [if_neg (by omega)]
          exact hM.out k (by omega)
        · rcases pc j b e1 with ⟨j1,j2⟩ | ⟨j1,j2⟩<;>rcases pc k b e2 with ⟨k1,k2⟩ | ⟨k1,k2⟩
          · omega
          · exact absurd (j2 ▸ k2) (nk k)
          · exact absurd (k2 ▸ j2) (nk j)
          · exact hM.inj j k b j2 k2
        · have hb:b∈μ1.priv:=hb
          obtain ⟨z1,z2⟩:=hM.pv b (by rw [hp];exact List.mem_cons_of_mem _ hb)
          refine ⟨z1,fun k e=>?_⟩
          rcases pc k b e with ⟨_,e⟩ | ⟨_,e⟩
          · exact na (e ▸ hb)
          · exact z2 k e
      exact q (.ref a) H' _ xe2 mce ⟨a,rfl,ac⟩
  · exact q.elim
end
section
variable {fa:Fa}{X:Cx}
def za8 (m:Bool) (n:Nat) (t:Tgt) (gw:Env->Mem->Res Walk) (g:Env->List D->Mem->Res (List D)):Env->Mem->Res D:=fun ρ M=>
  (gw ρ M).bind fun w M=>(zdh (zdp t g (List.replicate n none++ρ)) w [] M).bind (zbh m)
def zih (X:Cx) (elt tg iter:PySem.Expr) (ifs:List PySem.Expr) (rest:List Comprehension) (scope:Scope) (pos:Pos) (body:Addr->PySem.Env->Sem Unit):Prop:=
  ∀ (it a:Addr) (env:PySem.Env),compTurn (.ListComp elt (⟨tg,iter,ifs,0⟩::rest) scope pos) 0 (.ref it) (.ref a) env=(standAt iter.pos >>= fun _=>pyNext (.ref it) >>= fun r=>match r with
      | none=>pure (.done .next)
      | some v=>letOwnedTupleGo tg (.ref it) v >>= fun _=>assign tg env v >>= fun _=>body a env >>= fun _=>again (.compLoop (.ListComp elt (⟨tg,iter,ifs,0⟩::rest) scope pos) 0 (.ref it) (.ref a) env))
structure Block (fa:Fa) (X:Cx) (own bn:List Str) (scope:Scope) (tg:PySem.Expr) (t:Tgt) (W:List Nat) (body:Addr->PySem.Env->Sem Unit) (g:Env->List D->Mem->Res (List D)):Prop where
  pg:∀ cl C fp s H,PG (zcg X own bn scope cl C fp s H) tg (gT fa X.K t)
  db:∀ cl C fp s H a,DB fa (zcg X own bn scope cl C fp s H) a W (body a (compEnvC scope cl C X.env)) g
theorem zpm {n:Nat}{W:List Nat}{ρ:Env} (h:∀ i∈W,i < n):Clear W (List.replicate n none++ρ):=fun i hi d e=>by
  rw [List.getElem?_append_left (by simpa using h i hi),List.getElem?_replicate] at e
  simp [h i hi] at e
theorem zqj {K:PySem.W.Frag}{μ:Mu}{H:Hp}{σ:L2.St}{ρ:Env} (n:Nat) (h:za4 fa K μ H σ ρ):za4 fa K μ H (List.replicate n none++σ) (List.replicate n none++ρ):=by
  refine ⟨by simp [h.len],fun i d e=>?_⟩
  by_cases hi:i < n
  · rw [List.getElem?_append_left (by simpa using hi),List.getElem?_replicate] at e
    simp [hi] at e
  · rw [List.getElem?_append_right (by simp;omega)] at e ⊢
    simp only [List.length_replicate] at e ⊢
    exact h.at' _ d e
theorem zib {elt tg iter:PySem.Expr}{ifs:List PySem.Expr}{rest:List Comprehension}{scope:Scope}{pos p0:Pos}{own bn:List Str}{t:Tgt}{W:List Nat}{body:Addr->PySem.Env->Sem Unit}{gw:Env->Mem->Res Walk}{g:Env->List D->Mem->Res (List D)}{m:Bool}
    (S:zdo X own bn scope) (hcalm:X.calm=true) (hi:DI fa X tg iter gw) (B:Block fa X own bn scope tg t W body g) (hT:zih X elt tg iter ifs rest scope pos body) (hW:∀ i∈W,i∉slots t) (hn:∀ i∈slots t++W,i < own.length)
    (hs:∀ x,foldedSetIterable iter X.env x=pure x) {use:Option (Value->Sem Unit)}{QQ:Value->Shared->Prop}
    {pins:List (Addr×Obj)}{s:Shared}{σ:L2.St}{H:Hp}{Q:VK}{μ:Mu}{ρ:Env}{M:Mem} (I:Inv X pins σ H s) (hE:za4 fa X.K μ H σ ρ) (hM:RelM fa X.K μ H M) (h:okE (za8 m own.length t gw g ρ M) (zbb fa X.K μ H Q))
    (post:∀ (a C:Addr) (s':Shared) (H':Hp),Inv X pins σ H' s'->Q (.ref a) H'->(∃ m,s'.heap.Ns C m)->(∀ σ2 H2 s2,Inv X pins σ2 H2 s2->(H' C=none->H2 C=none)->H2 C=none /\ ∀ h'',Heap.SameBut C s2.heap h''->Inv X pins σ2 H2 {s2 with heap:=h''})->H' C=none->(C≠X.env.locals /\ ∀ x c,X.env.cells.lookup x=some c->c≠C)->compPost (model X.prog X.w) X.A X.xe use QQ (.ref a) C (.ok .next) s') :
    wpAny (model X.prog X.w) X.A (comprehension (.ListComp elt (⟨tg,iter,ifs,0⟩::rest) scope pos) scope X.env p0 (newList []) false (eval iter X.env) use) QQ X.xe s:=by
  obtain ⟨w,M1,ew,q⟩:=za5 h
  obtain ⟨acc,M2,ea,q2⟩:=za5 q
  obtain ⟨cl,hcl,hsub,hhas⟩:=znz (scope:=scope) (env:=X.env) fun y hy hf=>I.ok.has y.1 (S.free y hy hf)
  have CL:Cl X scope cl:=⟨hsub,hhas⟩
  refine wpAny_comprehension_free (use:=use) rfl hs hcl S.kind S.loc ?_
  refine thn (hi pins s σ H (fun J H1=>∃ μ1,Ext μ H μ1 H1 /\ RelM fa X.K μ1 H1 M1 /\ zc9 fa X.K μ1 H1 w J) I ⟨μ,ρ,M,hE,hM,?_⟩) fun v s1 h1=>thn h1 fun itv s2 h2=>?_
  · rw [ew];exact fun J H1 μ1 x1 m1 wk=>⟨μ1,x1,m1,wk⟩
  obtain ⟨it,fp,tn,J,H2,ei,I2,T,st2,f2,μ2,x2,m2,wk⟩:=h2
  subst ei
  refine wpAny_newObj_type ?_
  have ha:H2 s2.heap.objs.size=none:=I2.hok.fresh (Nat.le_refl _)
  have I3:Inv X pins σ (upd H2 s2.heap.objs.size (.lst [])) {s2 with heap:=s2.heap.push {cls:=.type "list",dict:=none,data:=.seq ([]:List Value).toArray}}:=
    I2.laid (t':=s2.toks) (fun b o e=>Heap.get?_push_of_some _ e) (Nat.le_refl _) ⟨Nat.zero_le _,[],_,.nil,Heap.get?_push_size _ rfl⟩
  generalize hs3:({s2 with heap:=s2.heap.push {cls:=.type "list",dict:=none,data:=.seq ([]:List Value).toArray}}:Shared)=s3 at I3 ⊢
  have k3:∀ b o,s2.heap.get? b=some o->s3.heap.get? b=some o:=fun b o e=>by rw [<- hs3];exact Heap.get?_push_of_some _ e
  have fo2:=T.obj _ _ st2
  have f3:∀ b∈fp,zdu X pins (upd H2 s2.heap.objs.size (.lst [])) b:=fun b hb=>by
    obtain ⟨o,e,_⟩:=fo2 b hb
    exact ⟨by rw [zar (Nat.ne_of_lt (Heap.lt_size e))];exact (f2 b hb).1,(f2 b hb).2⟩
  have fo3:∀ b∈fp,∃ o,s3.heap.get? b=some o:=fun b hb=>let ⟨o,e,_⟩:=fo2 b hb;⟨o,k3 b o e⟩
  refine wpAny_newFunctionEnv S.nocell (by intro y hy;simp at hy) (fun h₁ hns₁ hsb₁=>?_) S.kind
  have k4:∀ b o,s3.heap.get? b=some o->h₁.get? b=some o:=fun b o e=>hsb₁.extBut b o (Nat.ne_of_lt (Heap.lt_size e)) (Heap.get?_push_of_some _ e)
  have I4:=zra (own:=own) (bn:=bn) (t':=s3.toks+([]:List (Str×Value)).length) I3 S CL f3 fo3 hns₁ k4
  have ok4:=I4.ok
  have f4:∀ b∈fp,zdu (zcg X own bn scope cl s3.heap.objs.size fp s3 (upd H2 s2.heap.objs.size (.lst []))) [] (upd H2 s2.heap.objs.size (.lst [])) b:=fun b hb=>
    ⟨(f3 b hb).1,(ok4.exf b hb).1,ok4.exfs b hb,.inl hb,(ok4.exf b hb).2,fun p hp=>nomatch hp⟩
  have st4:tn 0 h₁:=T.keep _ _ _ st2 fun b hb o e=>k4 b o (k3 b o e)
  have x3:=zf9 m2 ha (.lst [])
  have go:=zt2 (X:=zcg X own bn scope cl s3.heap.objs.size fp s3 (upd H2 s2.heap.objs.size (.lst []))) (fa:=fa) (a:=s2.heap.objs.size) (W:=W) (t:=t) (g:=g) (acc:=[]) (vs:=[]) (Q:=fun _ H'=>Q (.ref s2.heap.objs.size) H') (hT it s2.heap.objs.size _) rfl hcalm T (B.pg _ _ _ _ _) (B.db _ _ _ _ _ _) hW I4 st4 f4
    (zqj own.length ((hE.ext x2).extW x3)) (zoz m2 ha []) (zpm hn) List.mem_cons_self zbg rfl (zoh wk x3) (by
      rw [ea]
      intro σ' H' μ' vs' z1 z2 z3 z4 z5
      exact zsw (m:=m) m2 ha z1 z3 z4 z5 (okW q2 x2))
  have go':codeAny (model X.prog X.w) X.A (.compLoop (.ListComp elt (⟨tg,iter,ifs,0⟩::rest) scope pos) 0 (.ref it) (.ref s2.heap.objs.size) (compEnvC scope cl s3.heap.objs.size X.env)) (compPost (model X.prog X.w) X.A X.xe use QQ (.ref s2.heap.objs.size) s3.heap.objs.size) {s3 with heap:=h₁,toks:=s3.toks+([]:List (Str×Value)).length}:=
    codeAny_mono go fun r s' ⟨er,σ',H',I',z⟩=>by
      subst er
      refine post _ _ s' H' (comp_back I3 f3 I') z (let ⟨m,hn,_⟩:=I'.loc;⟨m,hn⟩) (fun σ2 H2 s2' I2' hf=>⟨hf I'.free,fun h'' hs''=>zpk I3 (hf I'.free) I2' hs''⟩) I'.free ⟨Nat.ne_of_gt I3.lt,fun x c e z=>by
        obtain ⟨v,q⟩:=I3.cell x c e
        exact absurd q.lt (by rw [z];exact Nat.lt_irrefl _)⟩
  exact codeAny_compStart_list go' (T.self _ 0 _ _ _ st4 go')
theorem d_comp (m:Bool) {elt tg iter:PySem.Expr}{ifs:List PySem.Expr}{rest:List Comprehension}{scope:Scope}{pos:Pos}{own bn:List Str}{t:Tgt}{W:List Nat}{body:Addr->PySem.Env->Sem Unit}{gw:Env->Mem->Res Walk}{g:Env->List D->Mem->Res (List D)}
    (S:zdo X own bn scope) (hcalm:X.calm=true) (hi:DI fa X tg iter gw) (B:Block fa X own bn scope tg t W body g) (hT:zih X elt tg iter ifs rest scope pos body) (hW:∀ i∈W,i∉slots t) (hn:∀ i∈slots t++W,i < own.length)
    (hs:∀ x,foldedSetIterable iter X.env x=pure x):DE fa X (.ListComp elt (⟨tg,iter,ifs,0⟩::rest) scope pos) (za8 m own.length t gw g):=by
  intro pins s σ H Q I ⟨μ,ρ,M,hE,hM,h⟩
  rw [eval_ListComp]
  refine zib (use:=none) S hcalm hi B hT hW hn hs I hE hM h ?_
  intro a C s' H' I' q ⟨m,hn⟩ gone hf _
  exact ⟨m,hn,fun h' hs'=>⟨.ref a,H',(gone σ H' s' I' id).2 h' hs',rfl,q⟩⟩
theorem zny (m:Bool) {i:Nat}{y:Str}{py spos:Pos}{elt tg iter:PySem.Expr}{ifs:List PySem.Expr}{rest:List Comprehension}{scope:Scope}{pos:Pos}{own bn:List Str}{t:Tgt}{W:List Nat}{body:Addr->PySem.Env->Sem Unit}{gw:Env->Mem->Res Walk}{g:Env->List D->Mem->Res (List D)}
    (S:zdo X own bn scope) (hcalm:X.calm=true) (hi:DI fa X tg iter gw) (B:Block fa X own bn scope tg t W body g) (hT:zih X elt tg iter ifs rest scope pos body) (hW:∀ i∈W,i∉slots t) (hn:∀ i∈slots t++W,i < own.length)
    (hs:∀ x,foldedSetIterable iter X.env x=pure x) (hN:X.N.Nodup) (hy:X.N[i]?=some y) (hl:X.env.scope.names.lookup y=some .local)
    (hsw:swapsWith (.ListComp elt (⟨tg,iter,ifs,0⟩::rest) scope pos) (some (.Name y py)) spos.line X.env=pure true) :
    DS fa X (.Assign [.Name y py] (.ListComp elt (⟨tg,iter,ifs,0⟩::rest) scope pos) spos) (fun ρ M=>(za8 m own.length t gw g ρ M).bind fun x M=>(ofO M (zcj (.one i) x ρ)).bind fun ρ1 M=>.ok (.next ρ1) M):=by
  intro pins s σ H D' I ⟨μ,ρ,M,hE,hM,h⟩
  obtain ⟨x,M1,ex,q⟩:=za5 h
  have q:∀ σ' H' μ',Ext μ H μ' H'->za4 fa X.K μ' H' σ' (ρ.set i (some x))->RelM fa X.K μ' H' M1->D'.nx σ' H':=q
  rw [exec_Assign_Name_used _ _ _ _ hsw]
  refine wpAny_bind (wpAny_standAt (wpAny_bind ?_))
  show wpAny _ X.A (do let _ <- comprehension (.ListComp elt (⟨tg,iter,ifs,0⟩::rest) scope pos) scope X.env _ (newList []) false (eval iter X.env) (some (assign (.Name y py) X.env))) _ _ s
  refine wpAny_bind (thn (zib (use:=some (assign (.Name y py) X.env)) (QQ:=fun _ s'=>SP X pins D' .next s') (Q:=fun v H'=>D'.nx (σ.set i (some v)) H') S hcalm hi B hT hW hn hs I hE hM (by
    rw [ex]
    exact fun v H' μ' x1 m1 r1=>q _ H' μ' x1 ((hE.ext x1).set r1) m1) ?_) fun _ s' hq=>wpAny_pure (wpAny_pure hq))
  intro a C s' H' I' q ⟨m,hn⟩ gone hf ⟨nL,nC⟩
  refine wpAny_assign_Name (zjm I' hN hy (.inl hl) (v:=.ref a) rfl (fun s2 I2 ⟨b,hb,hb2⟩=>?_) (.inr hl))
  have nb:C≠b:=by
    rcases hb2 with z | z
    · rw [z];exact nL
    · exact Ne.symm (nC y b z)
  exact ⟨m,hn.sameBut hb nb,fun h' hs'=>⟨_,H',(gone _ H' s2 I2 id).2 h' hs',q⟩⟩
end
end LD
namespace LD
open PySem PySem.Spec PyProof.Rows L2
section
variable {X:Cx}{pins:List (Addr×Obj)}{σ:L2.St}{H:Hp}{s:Shared}{h':Heap}{t':Nat}{ch:List Addr}
theorem zmp (I:Inv X pins σ H s) (hf:∀ b∈ch,zdu X pins H b) (k:∀ b o,b∉ch->s.heap.get? b=some o->h'.get? b=some o):Inv X pins σ H {s with heap:=h',toks:=t'}:=by
  have nit:∀ b u,H b=some u->b∉ch:=fun b u e z=>by rw [(hf b z).1] at e;cases e
  refine I.step (g':=s.gens) (d':=s.drawn) (ch:=ch) (fun b hb=>⟨(hf b hb).2.2.2.1,(hf b hb).2.1,(hf b hb).2.2.2.2.1,(hf b hb).2.2.2.2.2⟩) (fun b o _ _ hc e _=>k b o hc e) (fun b o _ _ hc e _=>⟨o.slots,k b o hc e⟩) (fun _ _ _ _ n=>n)
    (fun b o hc e=>⟨o,k b o hc e⟩) (fun _ _ e=>e) (fun _ _ _ e=>e) (fun b ps e=>⟨#[],by rw [e];simp⟩) (fun m hm=>?_) (fun b u e=>?_) I.bare
  · obtain ⟨o,es,ep,ho,r⟩:=hm
    exact ⟨o,es,ep,k _ o (fun z=>(hf _ z).2.1 rfl) ho,r⟩
  · refine (I.hok b u e).stay (fun c v hc q=>k c v ?_ q) (fun _ q=>q) fun _ _ q=>q
    rcases hc with z | z
    · rw [z];exact nit b u e
    · exact nit c _ z
theorem zjj {T:Addr}{o:HO} (I:Inv X pins σ H s) (hf:∀ b∈ch,zdu X pins H b) (k:∀ b o,b∉ch->s.heap.get? b=some o->h'.get? b=some o) (hT:s.heap.objs.size≤T) (new:zb8 X.prog X.w (upd H T o) h' T o) :
    Inv X pins σ (upd H T o) {s with heap:=h',toks:=t'}:=by
  have hn:H T=none:=I.hok.fresh hT
  have nit:∀ b u,H b=some u->b∉ch:=fun b u e z=>by rw [(hf b z).1] at e;cases e
  refine I.step (g':=s.gens) (d':=s.drawn) (ch:=ch) (fun b hb=>⟨(hf b hb).2.2.2.1,(hf b hb).2.1,(hf b hb).2.2.2.2.1,(hf b hb).2.2.2.2.2⟩) (fun b o _ _ hc e _=>k b o hc e) (fun b o _ _ hc e _=>⟨o.slots,k b o hc e⟩)
    (fun b o _ e n=>by rw [zar (Nat.ne_of_lt (Nat.lt_of_lt_of_le (Heap.lt_size e) hT))];exact n)
    (fun b o hc e=>⟨o,k b o hc e⟩) (fun b xs e=>by rw [zar (zay e hn)];exact e) (fun b ob u e=>by rw [zar (zay e hn)];exact e) (fun b ps e=>⟨#[],by rw [zar (zay e hn),e];simp⟩) (fun m hm=>?_) (fun b u e=>?_) I.bare
  · obtain ⟨o,es,ep,ho,r⟩:=hm
    exact ⟨o,es,ep,k _ o (fun z=>(hf _ z).2.1 rfl) ho,r⟩
  · by_cases hb:b=T
    · subst hb;rw [zbg] at e;cases e;exact new
    · rw [zar hb] at e
      refine (I.hok b u e).stay (fun c v hc q=>k c v ?_ q) (fun c q=>by rw [zar (zay q hn)];exact q) fun c xs q=>by rw [zar (zay q hn)];exact q
      rcases hc with z | z
      · rw [z];exact nit b u e
      · exact nit c _ z
end
def Ite (K:PySem.W.Frag) (a:Addr):It:=
  ⟨fun i H=>∃ xs x,SqL K H a xs /\ xs[i]?=some x,fun i H v H'=>∃ p x,H p=none /\ v=.ref p /\ H'=upd H p (.tup [.int i,x]) /\ ∀ xs,SqL K H a xs->xs[i]?=some x,fun i H=>∃ xs,SqL K H a xs /\ xs.length≤i⟩
theorem zoo {P:Program}{w:World}{K:PySem.W.Frag}{elts:List PySem.Expr}{kk:Nat}{pos:Pos} (a it e:Addr) (hne:e≠it) :
    Turn P w K (.Tuple elts kk pos) (Ite K a) [e,it] e (fun i h=>(∃ old,IsEnum h e it (i:Nat) old) /\ h.IsListIter it a i) where
  mem:=by simp
  obj:=fun i h ⟨⟨old,he⟩,o,ho,c,d⟩ b hb=>by
    rcases List.mem_cons.mp hb with z | z
    · subst z;exact ⟨_,he,fun v z=>by cases z⟩
    · have e:b=it:=by simpa using z
      subst e
      exact ⟨o,ho,fun v z=>by rw [d] at z;cases z⟩
  keep:=fun i h h' ⟨⟨old,he⟩,st⟩ k=>⟨⟨old,k e (by simp) _ he⟩,st.at fun o e=>k it (by simp) o e⟩
  item:=by
    intro X hP hw hK hc i pins s σ H E I hf st hg
    subst hP hw hK
    obtain ⟨xs,x,hq,hx⟩:=hg
    obtain ⟨⟨old,he⟩,hit⟩:=st
    obtain ⟨its,rv,p,hz⟩:=I.list hq
    obtain ⟨u,hu,ru⟩:=rv.get hx
    refine wpAny_pyNext_enum_item he hit p.isList (x:=u) (by simpa using hu) hne fun h1 ho hit1 hT hsz hk=>⟨_,rfl,?_⟩
    have hT0:H s.heap.objs.size=none:=I.hok.fresh (Nat.le_refl _)
    have elt:e < s.heap.objs.size:=Heap.lt_size he
    refine wpAny_letOwnedTupleGo_enum (s:={s with heap:=h1,toks:=s.toks+1}) ho fun h2 he2 hs2=>?_
    have he2:IsEnum h2 e it ((i+1:Nat):Int) u:=by simpa using he2
    have hT2:h2.get? s.heap.objs.size=some {cls:=.type "tuple",data:=.seq #[.int i s.toks,u]}:=(hs2.2 _ (Nat.ne_of_gt elt)).trans hT
    refine ⟨.ref s.heap.objs.size,upd H s.heap.objs.size (.tup [.int i,x]),zjj (s:=s) (t':=s.toks+1) I hf (fun b o hb q=>(hs2.2 b (fun z=>hb (by simp [z]))).trans (hk b o (fun z=>hb (by simp [z])) (fun z=>hb (by simp [z])) q)) (Nat.le_refl _) ⟨?_,[.int i s.toks,u],.cons ⟨_,rfl⟩ (.cons ru .nil),⟨_,hT2,rfl,_,rfl⟩⟩,rfl,
      ⟨_,x,hT0,rfl,rfl,fun ys hy=>by rw [I.list_inj hy hq];exact hx⟩,⟨⟨u,he2⟩,hit1.extBut hs2.extBut (Ne.symm hne)⟩,fun b hb=>?_⟩
    · show 2≤sizeLine;decide
    · have:b < s.heap.objs.size:=by
        rcases List.mem_cons.mp hb with z | z
        · subst z;exact elt
        · have e:b=it:=by simpa using z
          subst e
          obtain ⟨o,e,_⟩:=hit;exact Heap.lt_size e
      rw [zar (Nat.ne_of_lt this)];exact (hf b hb).1
  done:=by
    intro X hP hw hK hc i pins s σ H E I hf st hg
    subst hP hw hK
    obtain ⟨xs,hq,hx⟩:=hg
    obtain ⟨⟨old,he⟩,hit⟩:=st
    obtain ⟨its,rv,p,hz⟩:=I.list hq
    have hl:=rv.length
    exact wpAny_pyNext_enum_end (I.ok.hd hc) he hit p.isList (by simp;omega) fun h' eb=>⟨rfl,zmp I hf (t':=s.toks) fun b o hb q=>eb b o (fun z=>hb (by simp [z])) q⟩
  self:=fun _ _ _ _ _ ⟨⟨old,he⟩,_⟩ h=>wpAny_pyIter_enum he h
section
variable {fa:Fa}{X:Cx}{a:PySem.Expr}{ga:Env->Mem->Res D}{pos p:Pos}
theorem zgb:∀ (ds:List D) (k i:Nat),(zdb k ds)[i]?=(ds[i]?).map fun d=>.tup [.int ((k+i:Nat):Int),d]
  | [],_,_=>by simp [zdb]
  | d::ds,k,0=>by simp [zdb]
  | d :: ds, k, i + 1 => by
    have:=zgb ds (k+1) i
    simp only [zdb,List.getElem?_cons_succ,this]
    congr 1
    funext d
    congr 3
    omega
theorem zga:∀ (ds:List D) (k:Nat),(zdb k ds).length=ds.length
  | [],_=>rfl
  | d::ds,k=>by simp [zdb,zga ds]
theorem zoj {μ0:Mu}{H0:Hp}{dd:D}{ad:Addr} (h:Rep fa X.K μ0 H0 dd (.ref ad)):zc9 fa X.K μ0 H0 (fun M=>(rdD M dd).map (zdb 0)) (Ite X.K ad):=fun μ H M ds x hM e=>by
  dsimp only at e
  cases e0:rdD M dd with
  | none=>rw [e0] at e;cases e
  | some es =>
    rw [e0] at e
    have e:zdb 0 es=ds:=Option.some.inj e
    subst e
    obtain ⟨ad',vs,ea,s,r⟩:=zbl hM (Rep.extW x h) e0
    cases ea
    refine ⟨fun i d hd=>?_,fun i hi=>⟨vs,s,by rw [r.length,<- zga es 0];exact hi⟩⟩
    rw [zgb] at hd
    cases e1:es[i]? with
    | none=>rw [e1] at hd;cases hd
    | some d0 =>
      rw [e1] at hd
      have hd:D.tup [.int ((0+i:Nat):Int),d0]=d:=Option.some.inj hd
      subst hd
      obtain ⟨v,hv,rv⟩:=r.get e1
      refine ⟨⟨vs,v,s,hv⟩,fun y H' ⟨q,z,hq,ey,eH,hy⟩=>?_⟩
      have:=hy vs s
      rw [hv] at this;cases this
      subst eH ey
      refine ⟨Ext.alloc hM hq,hM.alloc hq,q,[.int i,v],rfl,.inl (.inl zbg),.int i,[v],rfl,?_,v,[],rfl,rv.ext (Ext.alloc hM hq),rfl⟩
      show V.int i=V.int ((0+i:Nat):Int)
      rw [Nat.zero_add]
def zen (ga:Env->Mem->Res D):Env->Mem->Res Walk:=fun ρ M=>(ga ρ M).bind fun x M=>match x with
  | .lst ds=>.ok (fun _=>some (zdb 0 ds)) M
  | .frz ds=>.ok (fun _=>some (zdb 0 ds)) M
  | .cell k=>.ok (fun M=>(M[k]?).map (zdb 0)) M
  | _=>.bad
theorem ztx {elts:List PySem.Expr}{kk:Nat}{tp:Pos} (ha:DE fa X a ga) (hg:Gl X "enumerate") (hm:X.mg "enumerate"=none) (hs:starEach [a] X.env=[(false,eval a X.env)]):DI fa X (.Tuple elts kk tp) (.Call (.Name "enumerate" p) [a] [] pos) (zen ga):=by
  intro pins s σ H R I ⟨μ,ρ,M,hE,hM,h⟩
  obtain ⟨x,M1,e,q⟩:=za5 h
  have key:(∀ μ' H',RelM fa X.K μ' H' M1->∀ v,Rep fa X.K μ' H' x v->∃ ds,rdD M1 x=some ds)->(∀ J H' μ',Ext μ H μ' H'->RelM fa X.K μ' H' M1->zc9 fa X.K μ' H' (fun M=>(rdD M x).map (zdb 0)) J->R J H')->
      wpAny (model X.prog X.w) X.A (eval (.Call (.Name "enumerate" p) [a] [] pos) X.env) (fun v s1=>wpAny (model X.prog X.w) X.A (pyIter v) (PIE X pins σ (.Tuple elts kk tp) R) X.xe s1) X.xe s:=fun hx q=>by
    refine Call_ (zfi I hg hm boot_enumerate (PyProof.Rows.callWith_type1 (thn (zbu ha zc6 hs pos pins s σ H (fun vs H1=>∃ v μ1,vs=[v] /\ Ext μ H μ1 H1 /\ RelM fa X.K μ1 H1 M1 /\ Rep fa X.K μ1 H1 x v) I ⟨μ,ρ,M,hE,hM,?_⟩) fun us s1 ⟨vs,H1,I1,r1,v,μ1,ev,x1,m1,rv⟩=>?_) hs rfl))
    · rw [e];exact fun v H1 μ1 x1 m1 r1=>⟨v,μ1,rfl,x1,m1,r1⟩
    subst ev
    obtain ⟨ds,er⟩:=hx μ1 H1 m1 v rv
    obtain ⟨ad,vs,rfl,s1',r⟩:=zbl m1 rv er
    cases r1 with
    | cons r1 rr =>
      cases rr
      obtain rfl:=r1
      obtain ⟨its,rvs,pl,hz⟩:=I1.list s1'
      refine call_enumerate_list pl.isList fun h1 he hit hsz hk=>?_
      have I2:Inv X pins σ H1 {s1 with heap:=h1}:=I1.kept (t':=s1.toks) hk
      refine wpAny_pyIter_enum (s:={s1 with heap:=h1}) he ?_
      refine ⟨s1.heap.objs.size+1,[s1.heap.objs.size+1,s1.heap.objs.size],_,_,H1,rfl,I2,zoo ad s1.heap.objs.size (s1.heap.objs.size+1) (Nat.succ_ne_self _),⟨⟨.none,he⟩,hit⟩,fun b hb=>?_,q _ H1 μ1 x1 m1 (zoj rv)⟩
      have hb:s1.heap.objs.size≤b:=by
        rcases List.mem_cons.mp hb with z | z
        · subst z;exact Nat.le_succ _
        · have e:b=s1.heap.objs.size:=by simpa using z
          subst e;exact Nat.le_refl _
      exact I1.fpOk hb (I1.hok.fresh hb)
  cases x with
  | lst ds=>exact key (fun _ _ _ _ _=>⟨ds,rfl⟩) q
  | frz ds=>exact key (fun _ _ _ _ _=>⟨ds,rfl⟩) q
  | cell k=>exact key (fun μ' H' m' v ⟨ad,_,hk⟩=>let ⟨ds,_,e,_⟩:=m'.mu_lt hk;⟨ds,e⟩) q
  | _=>exact q.elim
end
end LD
namespace LD
open PySem PySem.Spec PyProof.Rows L2
def zbk:Bool->Heap->Addr->Array Value->Prop
  | true,h,a,its=>h.IsList a its
  | false,h,a,its=>h.IsTuple a its
def zbt:Bool->Heap->Addr->Addr->Nat->Prop
  | true,h,it,a,i=>h.IsListIter it a i
  | false,h,it,a,i=>h.IsTupleIter it a i
theorem zbk.extBut {b:Bool}{h h':Heap}{a c:Addr}{its:Array Value} (x:zbk b h a its) (hs:Heap.ExtBut c h h') (n:a≠c):zbk b h' a its:=by
  cases b<;>(obtain ⟨o,ho,r⟩:=x;exact ⟨o,hs a o n ho,r⟩)
theorem zbt.extBut {b:Bool}{h h':Heap}{it a c:Addr}{i:Nat} (x:zbt b h it a i) (hs:Heap.ExtBut c h h') (n:it≠c):zbt b h' it a i:=by
  cases b<;>(obtain ⟨o,ho,r⟩:=x;exact ⟨o,hs it o n ho,r⟩)
theorem zbt.at {b:Bool}{h h':Heap}{it a:Addr}{i:Nat} (x:zbt b h it a i) (k:∀ o,h.get? it=some o->h'.get? it=some o):zbt b h' it a i:=by
  cases b<;>(obtain ⟨o,ho,r⟩:=x;exact ⟨o,k o ho,r⟩)
theorem zbt.obj {b:Bool}{h:Heap}{it a:Addr}{i:Nat} (x:zbt b h it a i):∃ o,h.get? it=some o /\ ∀ v,o.data≠.cell v:=by
  cases b<;>(obtain ⟨o,ho,c,d⟩:=x;exact ⟨o,ho,fun v z=>by rw [d] at z;cases z⟩)
section
variable {prog:Program}{w:World}{A:Around}{E:Value->Shared->Prop}{s:Shared}
theorem zbc {a b:Nat} (h:a≠b):@Ne Addr a b:=h
theorem zk3 {T:Addr}{its:Array Value}{k:Nat}{x:Value}{Q:Unit->Shared->Prop} (hT:s.heap.get? T=some {cls:=.type "tuple",data:=.seq its}) (hz:its.size≤64)
    (h:∀ h',h'.get? T=some {cls:=.type "tuple",data:=.seq (its.setIfInBounds k x)}->Heap.SameBut T s.heap h'->Q () {s with heap:=h'}) :
    wpAny (model prog w) A (updateSeq T (·.setIfInBounds k x)) Q E s:=by
  refine wpAny_updateSeq hT rfl (h _ ?_ (Heap.SameBut.update ..)) (Nat.le_trans hz (by decide)) (by rw [Array.size_setIfInBounds];exact Nat.le_trans hz (by decide))
  rw [Heap.get?_update_self _ hT rfl]
  simp [Obj.mapSeq]
theorem ze7 {b:Bool}{it a:Addr}{i:Nat}{its:Array Value}{x:Value}{Q:Value->Shared->Prop} (hit:zbt b s.heap it a i) (hl:zbk b s.heap a its) (hx:its[i]?=some x)
    (hQ:∀ h',zbt b h' it a (i+1)->Heap.SameBut it s.heap h'->Q x {s with heap:=h'}):wpAny (model prog w) A (Builtin.SmallTypes.nextOf (.ref it)) Q E s:=by
  cases b with
  | true=>exact wpAny_nextOf_list_item hit hl hx hQ
  | false =>
    have hit:s.heap.IsTupleIter it a i:=hit
    obtain ⟨o,ho,hc,hd⟩:=id hit
    obtain ⟨ol,hol,_,nl,hdl⟩:=hl
    unfold Builtin.SmallTypes.nextOf
    refine wpAny_bind (wpAny_callSpecial?_slot (name:=Str.ofString "__next__") hit.typeIs F.slot_tuple_iterator_next
      (wpAny_call_entry F.slot_tuple_iterator_next hit.typeIs F.entry_tuple_iterator_next ?_ (F.args_tuple_iterator_next_1 _)))
    show wpAny _ _ (field (.ref it) 0 >>= _) _ _ s
    refine wpAny_bind (wpAny_field ho hd (x:=.ref a) rfl ?_)
    show wpAny _ _ (if (Value.ref a==Value.none)=true then _ else _) _ _ s
    rw [if_neg (show ¬ ((Value.ref a==Value.none)=true) from Bool.false_ne_true)]
    show wpAny _ _ (field (.ref it) 1 >>= _) _ _ s
    refine wpAny_bind (wpAny_field ho hd (x:=.int i 0) rfl ?_)
    show wpAny _ _ (seqItems? (.ref a) >>= _) _ _ s
    refine wpAny_bind (wpAny_seqItems hol hdl ?_)
    simp only [Int.toNat_natCast,hx]
    refine wpAny_bind (wpAny_setField ho hd (by simp) (wpAny_pure ⟨x,rfl,wpAny_pure (hQ _ ?_ (Heap.SameBut.update ..))⟩))
    exact ⟨_,Heap.get?_update_self _ ho (Obj.isFreed_of_fields (Obj.data_mapFields hd _)),(Obj.cls_mapFields ..).trans hc,by
      rw [Obj.data_mapFields hd];simp [rawInt]⟩
theorem zh1 {b:Bool}{it a:Addr}{i:Nat}{its:Array Value}{Q:Value->Shared->Prop} (hh:A.handled=none) (hit:zbt b s.heap it a i) (hl:zbk b s.heap a its) (hx:its[i]?=none)
    (hE:∀ h' e,Heap.ExtBut it s.heap h'->(∃ o,h'.get? e=some o /\ o.cls=.type "StopIteration")->E (.ref e) {s with heap:=h'}):wpAny (model prog w) A (Builtin.SmallTypes.nextOf (.ref it)) Q E s:=by
  cases b with
  | true=>exact wpAny_nextOf_list_end hh hit hl hx hE
  | false =>
    have hit:s.heap.IsTupleIter it a i:=hit
    obtain ⟨o,ho,hc,hd⟩:=id hit
    obtain ⟨ol,hol,_,nl,hdl⟩:=hl
    unfold Builtin.SmallTypes.nextOf
    refine wpAny_bind (wpAny_callSpecial?_slot (name:=Str.ofString "__next__") hit.typeIs F.slot_tuple_iterator_next
      (wpAny_call_entry F.slot_tuple_iterator_next hit.typeIs F.entry_tuple_iterator_next ?_ (F.args_tuple_iterator_next_1 _)))
    show wpAny _ _ (field (.ref it) 0 >>= _) _ _ s
    refine wpAny_bind (wpAny_field ho hd (x:=.ref a) rfl ?_)
    show wpAny _ _ (if (Value.ref a==Value.none)=true then _ else _) _ _ s
    rw [if_neg (show ¬ ((Value.ref a==Value.none)=true) from Bool.false_ne_true)]
    show wpAny _ _ (field (.ref it) 1 >>= _) _ _ s
    refine wpAny_bind (wpAny_field ho hd (x:=.int i 0) rfl ?_)
    show wpAny _ _ (seqItems? (.ref a) >>= _) _ _ s
    refine wpAny_bind (wpAny_seqItems hol hdl ?_)
    simp only [Int.toNat_natCast,hx]
    refine wpAny_bind (wpAny_rule (wpAny_bind (wpAny_setField ho hd (by simp) ?_)))
    show wpAny _ _ (newExc (.type "StopIteration") [] >>= _) _ _ _
    refine wpAny_bind ?_
    simp only [newExc,newTuple]
    refine wpAny_bind (wpAny_newObj_type ?_ (by size_fits))
    refine wpAny_bind (m:=firstArgMember _ _) (wpAny_of_eq (a:=Value.none) (by first | rfl | (simp only [firstArgMember];rfl)) ?_)
    refine wpAny_newObj_type ?_ (by size_fits)
    simp only [raiseNew]
    refine wpAny_bind (wpAny_handled ?_)
    first | rw [show A.in1.handled=none from hh] | rw [hh]
    refine wpAny_bind (wpAny_pure (wpAny_throw ?_))
    exact hE _ _ (((Heap.SameBut.update ..).extBut.push _).push _) ⟨_,Heap.get?_push_size _ rfl,rfl⟩
theorem zn9 {n i:Nat}{a0 a1:Nat}{b0 b1:Bool}{xs0 xs1:Array Value}{x0 x1 u0 u1:Value}{Q:Value->Shared->Prop} (hn:a0 < n /\ a1 < n)
    (hz:IsZip s.heap (n+4) (n+2) (n+3) .none) (hTI:s.heap.get? (n+2)=some {cls:=.type "tuple",data:=.seq #[.ref n,.ref (n+1)]}) (hTO:s.heap.get? (n+3)=some {cls:=.type "tuple",data:=.seq #[u0,u1]})
    (i0:zbt b0 s.heap n a0 i) (i1:zbt b1 s.heap (n+1) a1 i) (q0:zbk b0 s.heap a0 xs0) (q1:zbk b1 s.heap a1 xs1)
    (e0:xs0[i]?=some x0) (e1:xs1[i]?=some x1)
    (hQ:∀ h',IsZip h' (n+4) (n+2) (n+3) (rawInt s.heap.objs.size)->h'.get? (n+3)=some {cls:=.type "tuple",data:=.seq #[x0,x1]}->zbt b0 h' n a0 (i+1)->zbt b1 h' (n+1) a1 (i+1)->h'.get? s.heap.objs.size=some {cls:=.type "tuple",data:=.seq #[x0,x1]}->h'.objs.size=s.heap.objs.size+1->
      (∀ c o,c∉[n,(n+1),(n+3),(n+4)]->s.heap.get? c=some o->h'.get? c=some o)->Q (.ref s.heap.objs.size) {s with heap:=h'}) :
    wpAny (model prog w) A (Builtin.«zip.__next__» ⟨[.ref (n+4)],[]⟩) (fun fin s'=>∃ v,fin=.done (.ret v) /\ Q v s') E s:=by
  obtain ⟨l0,l1⟩:=hn
  show wpAny _ _ (field (.ref (n+4)) 2 >>= _) _ _ _
  refine wpAny_bind (wpAny_field hz rfl (x:=.bool false) rfl ?_)
  show wpAny _ _ (field (.ref (n+4)) 3 >>= _) _ _ _
  refine wpAny_bind (wpAny_field hz rfl (x:=.ref (n+2)) rfl ?_)
  refine wpAny_bind (wpAny_seqItems hTI rfl ?_)
  show wpAny _ _ (Builtin.SmallTypes.ownedTupleIsFree (.ref (n+4)) >>= _) _ _ _
  refine wpAny_bind ?_
  unfold Builtin.SmallTypes.ownedTupleIsFree
  refine wpAny_bind (wpAny_field hz rfl (x:=.none) rfl (wpAny_pure ?_))
  simp only [if_true]
  refine wpAny_bind (wpAny_rule ?_)
  refine wpAny_bind (wpAny_field hz rfl (x:=.ref (n+3)) rfl ?_)
  refine wpAny_bind (wpAny_setField_rec hz (by simp) fun h0 hz0 hs0=>?_)
  replace hz0:IsZip h0 (n+4) (n+2) (n+3) .ellipsis:=hz0
  have k0:∀ c o,c∉[n,(n+1),(n+3),(n+4)]->s.heap.get? c=some o->h0.get? c=some o:=fun c o hc e=>hs0.extBut _ _ (fun z=>hc (by rw [z];simp)) e
  have hTO0:h0.get? (n+3)=some {cls:=.type "tuple",data:=.seq #[u0,u1]}:=hs0.extBut _ _ (zbc (by omega)) hTO
  have hsz0:h0.objs.size=s.heap.objs.size:=hs0.1
  refine wpAny_bind ?_
  simp only [List.zipIdx_cons,List.zipIdx_nil,List.forIn_cons,List.forIn_nil]
  have j0_0:zbt b0 h0 n a0 i:=i0.extBut hs0.extBut (zbc (by omega))
  have p0_0:zbk b0 h0 a0 xs0:=q0.extBut hs0.extBut (zbc (by omega))
  have j1_0:zbt b1 h0 (n+1) a1 i:=i1.extBut hs0.extBut (zbc (by omega))
  have p1_0:zbk b1 h0 a1 xs1:=q1.extBut hs0.extBut (zbc (by omega))
  refine wpAny_bind (wpAny_bind (wpAny_onRaise ?_))
  show wpAny _ _ (Builtin.SmallTypes.nextOf (.ref n) >>= _) _ _ _
  refine wpAny_bind (ze7 j0_0 p0_0 e0 fun h1 j0_1 hs1=>wpAny_pure ?_)
  have hTO1:h1.get? (n+3)=some {cls:=.type "tuple",data:=.seq #[u0,u1]}:=hs1.extBut _ _ (zbc (by omega)) hTO0
  refine wpAny_bind (wpAny_seqItems hTO1 rfl ?_)
  refine wpAny_bind (zk3 hTO1 (by simp) fun h2 hTO2 hs2=>?_)
  replace hTO2:h2.get? (n+3)=some {cls:=.type "tuple",data:=.seq #[x0,u1]}:=hTO2
  have hz2:IsZip h2 (n+4) (n+2) (n+3) .ellipsis:=hs2.extBut _ _ (zbc (by omega)) (hs1.extBut _ _ (zbc (by omega)) hz0)
  have k2:∀ c o,c∉[n,(n+1),(n+3),(n+4)]->s.heap.get? c=some o->h2.get? c=some o:=fun c o hc e=>hs2.extBut _ _ (fun z=>hc (by rw [z];simp)) (hs1.extBut _ _ (fun z=>hc (by rw [z];simp)) (k0 c o hc e))
  have hsz2:h2.objs.size=s.heap.objs.size:=by rw [hs2.1,hs1.1,hsz0]
  have j0_2:zbt b0 h2 n a0 (i+1):=j0_1.extBut hs2.extBut (zbc (by omega))
  have p0_2:zbk b0 h2 a0 xs0:=(p0_0.extBut hs1.extBut (zbc (by omega))).extBut hs2.extBut (zbc (by omega))
  have j1_2:zbt b1 h2 (n+1) a1 i:=(j1_0.extBut hs1.extBut (zbc (by omega))).extBut hs2.extBut (zbc (by omega))
  have p1_2:zbk b1 h2 a1 xs1:=(p1_0.extBut hs1.extBut (zbc (by omega))).extBut hs2.extBut (zbc (by omega))
  refine wpAny_bind (wpAny_letGo (wpAny_pure ?_))
  refine wpAny_bind (wpAny_bind (wpAny_onRaise ?_))
  show wpAny _ _ (Builtin.SmallTypes.nextOf (.ref (n+1)) >>= _) _ _ _
  refine wpAny_bind (ze7 j1_2 p1_2 e1 fun h3 j1_3 hs3=>wpAny_pure ?_)
  have hTO3:h3.get? (n+3)=some {cls:=.type "tuple",data:=.seq #[x0,u1]}:=hs3.extBut _ _ (zbc (by omega)) hTO2
  refine wpAny_bind (wpAny_seqItems hTO3 rfl ?_)
  refine wpAny_bind (zk3 hTO3 (by simp) fun h4 hTO4 hs4=>?_)
  replace hTO4:h4.get? (n+3)=some {cls:=.type "tuple",data:=.seq #[x0,x1]}:=hTO4
  have hz4:IsZip h4 (n+4) (n+2) (n+3) .ellipsis:=hs4.extBut _ _ (zbc (by omega)) (hs3.extBut _ _ (zbc (by omega)) hz2)
  have k4:∀ c o,c∉[n,(n+1),(n+3),(n+4)]->s.heap.get? c=some o->h4.get? c=some o:=fun c o hc e=>hs4.extBut _ _ (fun z=>hc (by rw [z];simp)) (hs3.extBut _ _ (fun z=>hc (by rw [z];simp)) (k2 c o hc e))
  have hsz4:h4.objs.size=s.heap.objs.size:=by rw [hs4.1,hs3.1,hsz2]
  have j0_4:zbt b0 h4 n a0 (i+1):=(j0_2.extBut hs3.extBut (zbc (by omega))).extBut hs4.extBut (zbc (by omega))
  have p0_4:zbk b0 h4 a0 xs0:=(p0_2.extBut hs3.extBut (zbc (by omega))).extBut hs4.extBut (zbc (by omega))
  have j1_4:zbt b1 h4 (n+1) a1 (i+1):=j1_3.extBut hs4.extBut (zbc (by omega))
  have p1_4:zbk b1 h4 a1 xs1:=(p1_2.extBut hs3.extBut (zbc (by omega))).extBut hs4.extBut (zbc (by omega))
  refine wpAny_bind (wpAny_letGo (wpAny_pure (wpAny_pure ?_)))
  refine wpAny_bind (wpAny_seqItems hTO4 rfl ?_)
  refine wpAny_bind (wpAny_newTuple ?_)
  have hzlt:(n+4) < h4.objs.size:=Heap.lt_size hz4
  show wpAny _ _ (Builtin.SmallTypes.ownedTupleHandOut (.ref (n+4)) (.ref h4.objs.size) >>= _) _ _ _
  refine wpAny_bind ?_
  unfold Builtin.SmallTypes.ownedTupleHandOut
  have hz6:IsZip (h4.push {cls:=.type "tuple",data:=.seq #[x0,x1]}) (n+4) (n+2) (n+3) .ellipsis:=Heap.get?_push_of_some _ hz4
  refine wpAny_bind (wpAny_setField_rec hz6 (by simp) fun h7 hz7 hs7=>?_)
  replace hz7:IsZip h7 (n+4) (n+2) (n+3) (rawInt h4.objs.size):=hz7
  refine wpAny_setField_rec hz7 (by simp) fun h8 hz8 hs8=>?_
  replace hz8:IsZip h8 (n+4) (n+2) (n+3) (rawInt h4.objs.size):=hz8
  have up:∀ c o,c≠(n+4)->h4.get? c=some o->h8.get? c=some o:=fun c o c1 e=>hs8.extBut _ _ c1 (hs7.extBut _ _ c1 (Heap.get?_push_of_some _ e))
  have hT8:h8.get? h4.objs.size=some {cls:=.type "tuple",data:=.seq #[x0,x1]}:=hs8.extBut _ _ (Nat.ne_of_gt hzlt) (hs7.extBut _ _ (Nat.ne_of_gt hzlt) (Heap.get?_push_size _ rfl))
  have hzz:h8.objs.size=h4.objs.size+1:=by rw [hs8.1,hs7.1,Heap.size_push]
  rw [hsz4] at hz8 hT8 hzz
  refine wpAny_pure ⟨_,rfl,?_⟩
  show Q (.ref h4.objs.size) _
  rw [hsz4]
  exact hQ h8 hz8 (up _ _ (zbc (by omega)) hTO4) (j0_4.at fun o e=>up _ o (zbc (by omega)) e) (j1_4.at fun o e=>up _ o (zbc (by omega)) e) hT8 hzz fun c o hc e=>up c o (fun z=>hc (by rw [z];simp)) (k4 c o hc e)
theorem zpv {n i:Nat}{a0 a1:Nat}{b0 b1:Bool}{xs0 xs1:Array Value}{u0 u1:Value}{Q:Fin->Shared->Prop} (hh:A.handled=none) (hn:a0 < n /\ a1 < n)
    (hz:IsZip s.heap (n+4) (n+2) (n+3) .none) (hTI:s.heap.get? (n+2)=some {cls:=.type "tuple",data:=.seq #[.ref n,.ref (n+1)]}) (hTO:s.heap.get? (n+3)=some {cls:=.type "tuple",data:=.seq #[u0,u1]})
    (i0:zbt b0 s.heap n a0 i) (i1:zbt b1 s.heap (n+1) a1 i) (q0:zbk b0 s.heap a0 xs0) (q1:zbk b1 s.heap a1 xs1)
    (hend:xs0[i]?=none \/ xs1[i]?=none)
    (hE:∀ h' e,(∀ c o,c∉[n,(n+1),(n+3),(n+4)]->s.heap.get? c=some o->h'.get? c=some o)->(∃ o,h'.get? e=some o /\ o.cls=.type "StopIteration")->E (.ref e) {s with heap:=h'}) :
    wpAny (model prog w) A (Builtin.«zip.__next__» ⟨[.ref (n+4)],[]⟩) Q E s:=by
  obtain ⟨l0,l1⟩:=hn
  show wpAny _ _ (field (.ref (n+4)) 2 >>= _) _ _ _
  refine wpAny_bind (wpAny_field hz rfl (x:=.bool false) rfl ?_)
  show wpAny _ _ (field (.ref (n+4)) 3 >>= _) _ _ _
  refine wpAny_bind (wpAny_field hz rfl (x:=.ref (n+2)) rfl ?_)
  refine wpAny_bind (wpAny_seqItems hTI rfl ?_)
  show wpAny _ _ (Builtin.SmallTypes.ownedTupleIsFree (.ref (n+4)) >>= _) _ _ _
  refine wpAny_bind ?_
  unfold Builtin.SmallTypes.ownedTupleIsFree
  refine wpAny_bind (wpAny_field hz rfl (x:=.none) rfl (wpAny_pure ?_))
  simp only [if_true]
  refine wpAny_bind (wpAny_rule ?_)
  refine wpAny_bind (wpAny_field hz rfl (x:=.ref (n+3)) rfl ?_)
  refine wpAny_bind (wpAny_setField_rec hz (by simp) fun h0 hz0 hs0=>?_)
  replace hz0:IsZip h0 (n+4) (n+2) (n+3) .ellipsis:=hz0
  have k0:∀ c o,c∉[n,(n+1),(n+3),(n+4)]->s.heap.get? c=some o->h0.get? c=some o:=fun c o hc e=>hs0.extBut _ _ (fun z=>hc (by rw [z];simp)) e
  have hTO0:h0.get? (n+3)=some {cls:=.type "tuple",data:=.seq #[u0,u1]}:=hs0.extBut _ _ (zbc (by omega)) hTO
  refine wpAny_bind ?_
  simp only [List.zipIdx_cons,List.zipIdx_nil,List.forIn_cons,List.forIn_nil]
  have j0_0:zbt b0 h0 n a0 i:=i0.extBut hs0.extBut (zbc (by omega))
  have p0_0:zbk b0 h0 a0 xs0:=q0.extBut hs0.extBut (zbc (by omega))
  have j1_0:zbt b1 h0 (n+1) a1 i:=i1.extBut hs0.extBut (zbc (by omega))
  have p1_0:zbk b1 h0 a1 xs1:=q1.extBut hs0.extBut (zbc (by omega))
  refine wpAny_bind (wpAny_bind (wpAny_onRaise ?_))
  show wpAny _ _ (Builtin.SmallTypes.nextOf (.ref n) >>= _) _ _ _
  cases e0:xs0[i]? with
  | none =>
    refine wpAny_bind (zh1 hh j0_0 p0_0 e0 fun h1 e hs1 he=>?_)
    obtain ⟨oe,hoe,hce⟩:=he
    have hz1:IsZip h1 (n+4) (n+2) (n+3) .ellipsis:=hs1 _ _ (zbc (by omega)) hz0
    have hez:e≠(n+4):=fun x=>by subst x;rw [hz1] at hoe;cases hoe;simp at hce
    exact wpAny_setField_rec hz1 (by simp) fun h2 _ hs2=>hE h2 e (fun c o hc x=>hs2.extBut _ _ (fun z=>hc (by rw [z];simp)) (hs1 _ _ (fun z=>hc (by rw [z];simp)) (k0 c o hc x))) ⟨oe,hs2.extBut _ _ hez hoe,hce⟩
  | some x0 =>
    refine wpAny_bind (ze7 j0_0 p0_0 e0 fun h1 j0_1 hs1=>wpAny_pure ?_)
    have hTO1:h1.get? (n+3)=some {cls:=.type "tuple",data:=.seq #[u0,u1]}:=hs1.extBut _ _ (zbc (by omega)) hTO0
    refine wpAny_bind (wpAny_seqItems hTO1 rfl ?_)
    refine wpAny_bind (zk3 hTO1 (by simp) fun h2 hTO2 hs2=>?_)
    replace hTO2:h2.get? (n+3)=some {cls:=.type "tuple",data:=.seq #[x0,u1]}:=hTO2
    have hz2:IsZip h2 (n+4) (n+2) (n+3) .ellipsis:=hs2.extBut _ _ (zbc (by omega)) (hs1.extBut _ _ (zbc (by omega)) hz0)
    have k2:∀ c o,c∉[n,(n+1),(n+3),(n+4)]->s.heap.get? c=some o->h2.get? c=some o:=fun c o hc e=>hs2.extBut _ _ (fun z=>hc (by rw [z];simp)) (hs1.extBut _ _ (fun z=>hc (by rw [z];simp)) (k0 c o hc e))
    have j1_2:zbt b1 h2 (n+1) a1 i:=(j1_0.extBut hs1.extBut (zbc (by omega))).extBut hs2.extBut (zbc (by omega))
    have p1_2:zbk b1 h2 a1 xs1:=(p1_0.extBut hs1.extBut (zbc (by omega))).extBut hs2.extBut (zbc (by omega))
    refine wpAny_bind (wpAny_letGo (wpAny_pure ?_))
    refine wpAny_bind (wpAny_bind (wpAny_onRaise ?_))
    show wpAny _ _ (Builtin.SmallTypes.nextOf (.ref (n+1)) >>= _) _ _ _
    cases e1:xs1[i]? with
    | none =>
      refine wpAny_bind (zh1 hh j1_2 p1_2 e1 fun h3 e hs3 he=>?_)
      obtain ⟨oe,hoe,hce⟩:=he
      have hz3:IsZip h3 (n+4) (n+2) (n+3) .ellipsis:=hs3 _ _ (zbc (by omega)) hz2
      have hez:e≠(n+4):=fun x=>by subst x;rw [hz3] at hoe;cases hoe;simp at hce
      exact wpAny_setField_rec hz3 (by simp) fun h4 _ hs4=>hE h4 e (fun c o hc x=>hs4.extBut _ _ (fun z=>hc (by rw [z];simp)) (hs3 _ _ (fun z=>hc (by rw [z];simp)) (k2 c o hc x))) ⟨oe,hs4.extBut _ _ hez hoe,hce⟩
    | some x1 =>
      exfalso
      rcases hend with h | h
      · rw [e0] at h;cases h
      · rw [e1] at h;cases h
end
end LD
namespace LD
open PySem PySem.Spec PyProof.Rows L2
def SqB (K:PySem.W.Frag) (H:Hp):Bool->Addr->List V->Prop
  | true,a,xs=>SqL K H a xs
  | false,a,xs=>SqT K H a xs
def zd6:D->Bool
  | .tup _=>false
  | _=>true
def zcu:D->Bool
  | .tup _=>true
  | .lst _=>true
  | .frz _=>true
  | .cell _=>true
  | _=>false
theorem zfe {X:Cx}{pins:List (Addr×Obj)}{σ:L2.St}{H:Hp}{s:Shared}{b:Bool}{a:Addr}{xs:List V} (I:Inv X pins σ H s) (h:SqB X.K H b a xs):∃ its:List Value,Vals xs its /\ zbk b s.heap a its.toArray:=by
  cases b with
  | true=>obtain ⟨its,r,p,_⟩:=I.list h;exact ⟨its,r,p.isList⟩
  | false=>obtain ⟨its,r,p,_⟩:=I.tuple h;exact ⟨its,r,p⟩
theorem zla {X:Cx}{pins:List (Addr×Obj)}{σ:L2.St}{H:Hp}{s:Shared}{b:Bool}{a:Addr}{xs ys:List V} (I:Inv X pins σ H s) (h:SqB X.K H b a xs) (h':SqB X.K H b a ys):xs=ys:=by
  cases b with
  | true=>exact I.list_inj h h'
  | false=>exact I.tuple_inj h h'
theorem zg5 {fa:Fa}{X:Cx}{μ:Mu}{H:Hp}{M:Mem}{d:D}{a:Addr}{ds:List D} (hM:RelM fa X.K μ H M) (h:Rep fa X.K μ H d (.ref a)) (e:zbr M d=some ds):∃ vs,SqB X.K H (zd6 d) a vs /\ zat fa X.K μ H ds vs:=by
  cases d with
  | tup xs=>cases e;obtain ⟨a',vs,e,s,r⟩:=h;cases e;exact ⟨vs,s,r⟩
  | lst xs=>obtain ⟨a',vs,e',s,r⟩:=zbl hM h (show rdD M (.lst xs)=some ds from e);cases e';exact ⟨vs,s,r⟩
  | frz xs=>obtain ⟨a',vs,e',s,r⟩:=zbl hM h (show rdD M (.frz xs)=some ds from e);cases e';exact ⟨vs,s,r⟩
  | cell k=>obtain ⟨a',vs,e',s,r⟩:=zbl hM h (show rdD M (.cell k)=some ds from e);cases e';exact ⟨vs,s,r⟩
  | _=>cases e
theorem zk9 {fa:Fa}{X:Cx}{pins:List (Addr×Obj)}{σ:L2.St}{μ:Mu}{H:Hp}{s:Shared}{M:Mem}{d:D}{v:V} (I:Inv X pins σ H s) (hM:RelM fa X.K μ H M) (h:Rep fa X.K μ H d v) (e:zcu d=true):∃ (a:Nat) (its:Array Value),v=.ref a /\ zbk (zd6 d) s.heap a its:=by
  have key:∀ ds,zbr M d=some ds->∃ (a:Nat) (its:Array Value),v=.ref a /\ zbk (zd6 d) s.heap a its:=fun ds z=>by
    obtain ⟨a,vs,rfl,_,_⟩:=zer hM h z
    obtain ⟨vs,s1,_⟩:=zg5 hM h z
    obtain ⟨its,_,p⟩:=zfe I s1
    exact ⟨a,its.toArray,rfl,p⟩
  cases d with
  | tup xs=>exact key xs rfl
  | lst xs=>exact key xs rfl
  | frz xs=>exact key xs rfl
  | cell k =>
    obtain ⟨a,e,hk⟩:=id h
    obtain ⟨ds,_,z,_⟩:=hM.mu_lt hk
    exact key ds z
  | _=>cases e
theorem zbk.lt {b:Bool}{h:Heap}{a:Addr}{its:Array Value} (x:zbk b h a its):a < h.objs.size:=by
  cases b<;>(obtain ⟨o,ho,r⟩:=x;exact Heap.lt_size ho)
theorem zbk.push {b:Bool}{h:Heap}{a:Addr}{its:Array Value} (x:zbk b h a its) (ob:Obj):zbk b (h.push ob) a its:=by
  cases b<;>(obtain ⟨o,ho,r⟩:=x;exact ⟨o,Heap.get?_push_of_some _ ho,r⟩)
def zkp (b:Bool) (a:Addr):Obj:={cls:=.type (if b then "list_iterator" else "tuple_iterator"),data:=.fields #[.ref a,.int 0 0]}
theorem zbt.new {b:Bool}{h:Heap}{it a:Addr} (e:h.get? it=some (zkp b a)):zbt b h it a 0:=by
  cases b<;>exact ⟨_,e,rfl,rfl⟩
theorem zhr {prog:Program}{w:World}{A:Around}{E:Value->Shared->Prop}{s:Shared}{b:Bool}{a:Addr}{its:Array Value}{Q:Value->Shared->Prop} (h:zbk b s.heap a its) (hQ:Q (.ref s.heap.objs.size) {s with heap:=s.heap.push (zkp b a)}):wpAny (model prog w) A (pyIter (.ref a)) Q E s:=by
  cases b with
  | true=>exact wpAny_pyIter_list h hQ
  | false=>exact wpAny_pyIter_tuple h hQ
def Itz2 (K:PySem.W.Frag) (b0:Bool) (a0:Nat) (b1:Bool) (a1:Nat):It:=
  ⟨fun i H=>(∃ xs x,SqB K H b0 a0 xs /\ xs[i]?=some x) /\ (∃ xs x,SqB K H b1 a1 xs /\ xs[i]?=some x),
   fun i H v H'=>∃ p x0 x1,H p=none /\ v=.ref p /\ H'=upd H p (.tup [x0,x1]) /\ (∀ xs,SqB K H b0 a0 xs->xs[i]?=some x0) /\ (∀ xs,SqB K H b1 a1 xs->xs[i]?=some x1),
   fun i H=>∃ xs0 xs1,SqB K H b0 a0 xs0 /\ SqB K H b1 a1 xs1 /\ (xs0.length≤i \/ xs1.length≤i)⟩
def zgm (n:Nat) (b0:Bool) (a0:Nat) (b1:Bool) (a1:Nat) (i:Nat) (h:Heap) (f0:Value):Prop:=IsZip h (n+4) (n+2) (n+3) f0 /\ h.get? (n+2)=some {cls:=.type "tuple",data:=.seq #[.ref n,.ref (n+1)]} /\ (∃ u0 u1,h.get? (n+3)=some {cls:=.type "tuple",data:=.seq #[u0,u1]}) /\ zbt b0 h n a0 i /\ zbt b1 h (n+1) a1 i
theorem zgm.keep {n i:Nat}{a0 a1:Nat}{b0 b1:Bool}{h h':Heap}{f0:Value} (x:zgm n b0 a0 b1 a1 i h f0) (k:∀ b∈[(n+4),n,(n+1),(n+2),(n+3)],∀ o,h.get? b=some o->h'.get? b=some o):zgm n b0 a0 b1 a1 i h' f0:=by
  obtain ⟨h1,h2,⟨u0,u1,h3⟩,j0,j1⟩:=x
  exact ⟨k _ (by simp) _ h1,k _ (by simp) _ h2,⟨u0,u1,k _ (by simp) _ h3⟩,j0.at fun o e=>k _ (by simp) o e,j1.at fun o e=>k _ (by simp) o e⟩
theorem zom {P:Program}{w:World}{K:PySem.W.Frag}{elts:List PySem.Expr}{kk:Nat}{pos:Pos} (n:Nat) (b0:Bool) (a0:Nat) (b1:Bool) (a1:Nat) (hn:a0 < n /\ a1 < n) :
    Turn P w K (.Tuple elts kk pos) (Itz2 K b0 a0 b1 a1) [(n+4),n,(n+1),(n+2),(n+3)] (n+4) (fun i h=>zgm n b0 a0 b1 a1 i h .none) where
  mem:=by simp
  obj:=fun i h ⟨h1,h2,⟨u0,u1,h3⟩,j0,j1⟩ b hb=>by
    simp only [List.mem_cons,List.not_mem_nil,or_false] at hb
    rcases hb with z | z | z | z | z
    · subst z;exact ⟨_,h1,fun v z=>by cases z⟩
    · subst z;exact j0.obj
    · subst z;exact j1.obj
    · subst z;exact ⟨_,h2,fun v z=>by cases z⟩
    · subst z;exact ⟨_,h3,fun v z=>by cases z⟩
  keep:=fun i h h' st k=>st.keep k
  item:=by
    intro X hP hw hK hc i pins s σ H E I hf st hg
    subst hP hw hK
    obtain ⟨⟨xs0,x0,hq0,hx0⟩,⟨xs1,x1,hq1,hx1⟩⟩:=hg
    obtain ⟨h1,h2,⟨u0,u1,h3⟩,j0,j1⟩:=st
    obtain ⟨its0,rv0,p0⟩:=zfe I hq0
    obtain ⟨w0,hw0,rw0⟩:=rv0.get hx0
    obtain ⟨its1,rv1,p1⟩:=zfe I hq1
    obtain ⟨w1,hw1,rw1⟩:=rv1.get hx1
    have hT:s.TypeIs (.ref (n+4)) "zip":=⟨_,h1,rfl⟩
    unfold pyNext
    refine wpAny_bind (wpAny_attempt (wpAny_callSpecial?_slot (name:=Str.ofString "__next__") hT F.slot_zip_next
      (wpAny_call_entry F.slot_zip_next hT F.entry_zip_next
        (zn9 (E:=_) hn h1 h2 h3 j0 j1 p0 p1 (x0:=w0) (by simpa using hw0) (x1:=w1) (by simpa using hw1) fun h4 z1 z2 g0 g1 hTT hsz hk=>wpAny_pure ⟨_,rfl,?_⟩) (F.args_zip_next_1 _))))
    have hT0:H s.heap.objs.size=none:=I.hok.fresh (Nat.le_refl _)
    have zlt:(n+4) < s.heap.objs.size:=Heap.lt_size h1
    refine wpAny_letOwnedTupleGo_zip (s:={s with heap:=h4}) z1 fun h5 hz5 hs5=>?_
    have hT5:h5.get? s.heap.objs.size=some {cls:=.type "tuple",data:=.seq #[w0,w1]}:=(hs5.2 _ (Nat.ne_of_gt zlt)).trans hTT
    refine ⟨.ref s.heap.objs.size,upd H s.heap.objs.size (.tup [x0,x1]),zjj (s:=s) (t':=s.toks) I hf (fun b o hb q=>(hs5.2 b (fun z=>hb (by rw [z];simp))).trans (hk b o (fun z=>hb (by simp only [List.mem_cons,List.not_mem_nil,or_false] at z ⊢;rcases z with z | z | z | z<;>simp [z])) q)) (Nat.le_refl _) ⟨?_,[w0,w1],.cons rw0 (.cons rw1 (.nil)),⟨_,hT5,rfl,_,rfl⟩⟩,rfl,
      ⟨_,x0,x1,hT0,rfl,rfl,fun ys hy=>by rw [zla I hy hq0];exact hx0,fun ys hy=>by rw [zla I hy hq1];exact hx1⟩,⟨hz5,hs5.extBut _ _ (zbc (by omega)) (hk _ _ (by simp) h2),⟨w0,w1,hs5.extBut _ _ (zbc (by omega)) z2⟩,g0.extBut hs5.extBut (zbc (by omega)),g1.extBut hs5.extBut (zbc (by omega))⟩,fun b hb=>?_⟩
    · show 2≤sizeLine;decide
    · have:b < s.heap.objs.size:=by
        have zl:(n+4) < s.heap.objs.size:=zlt
        simp only [List.mem_cons,List.not_mem_nil,or_false] at hb
        rcases hb with z | z | z | z | z<;>(rw [z];(first | exact zl | exact Nat.lt_trans (by omega) zl))
      rw [zar (Nat.ne_of_lt this)];exact (hf b hb).1
  done:=by
    intro X hP hw hK hc i pins s σ H E I hf st hg
    subst hP hw hK
    obtain ⟨xs0,xs1,hq0,hq1,hend⟩:=hg
    obtain ⟨h1,h2,⟨u0,u1,h3⟩,j0,j1⟩:=st
    obtain ⟨its0,rv0,p0⟩:=zfe I hq0
    have hl0:=rv0.length
    obtain ⟨its1,rv1,p1⟩:=zfe I hq1
    have hl1:=rv1.length
    have hT:s.TypeIs (.ref (n+4)) "zip":=⟨_,h1,rfl⟩
    unfold pyNext
    refine wpAny_bind (wpAny_attempt (wpAny_callSpecial?_slot (name:=Str.ofString "__next__") hT F.slot_zip_next
      (wpAny_call_entry F.slot_zip_next hT F.entry_zip_next (zpv (I.ok.hd hc) hn h1 h2 h3 j0 j1 p0 p1 (by
        rcases hend with z | z
        · exact .inl (by simp;omega)
        · exact .inr (by simp;omega)
        ) fun h' e hk he=>?_) (F.args_zip_next_1 _))))
    obtain ⟨o,ho,hcl⟩:=he
    refine wpAny_bind (wpAny_isInstance (T:="StopIteration") (b:=true) ⟨o,ho,hcl⟩ isSubtype_stop ?_)
    exact wpAny_pure ⟨rfl,zmp (s:=s) I hf (t':=s.toks) fun b o hb q=>hk b o (fun z=>hb (by simp only [List.mem_cons,List.not_mem_nil,or_false] at z ⊢;rcases z with z | z | z | z<;>simp [z])) q⟩
  self:=fun _ _ _ _ _ st h=>wpAny_pyIter_zip st.1 h
abbrev zhh (h:Heap) (b0:Bool) (a0:Nat) (b1:Bool) (a1:Nat):Heap:=h.push (zkp b0 a0)
abbrev zkl (h:Heap) (b0:Bool) (a0:Nat) (b1:Bool) (a1:Nat):Heap:=(zhh h b0 a0 b1 a1).push (zkp b1 a1)
abbrev zkk (h:Heap) (b0:Bool) (a0:Nat) (b1:Bool) (a1:Nat):Heap:=(zkl h b0 a0 b1 a1).push {cls:=.type "tuple",data:=.seq #[.ref h.objs.size,.ref (zhh h b0 a0 b1 a1).objs.size]}
abbrev zkj (h:Heap) (b0:Bool) (a0:Nat) (b1:Bool) (a1:Nat):Heap:=(zkk h b0 a0 b1 a1).push {cls:=.type "tuple",data:=.seq #[.none,.none]}
abbrev zfl (h:Heap) (b0:Bool) (a0:Nat) (b1:Bool) (a1:Nat):Heap:=(zkj h b0 a0 b1 a1).push {cls:=.type "zip",data:=.fields #[.none,.bool false,.bool false,.ref (zkl h b0 a0 b1 a1).objs.size,.ref (zkk h b0 a0 b1 a1).objs.size]}
theorem znl (b0:Bool) (a0:Nat) (b1:Bool) (a1:Nat) (xs0 xs1:Array Value) :
    Meets (Builtin.«zip.__new__» ⟨[.type "zip",.ref a0,.ref a1],[]⟩) (fun _ R s=>zbk b0 s.heap a0 xs0 /\ zbk b1 s.heap a1 xs1 /\
      R (.ok (.ret (.ref (zkj s.heap b0 a0 b1 a1).objs.size))) {s with heap:=zfl s.heap b0 a0 b1 a1}):=
  .of_wp fun prog w A R s h=>by
    obtain ⟨hp,g,d,tk,os⟩:=s;obtain ⟨q0,q1,h⟩:=h
    have hsub:=sub_zip
    have L0:zbk b0 (Shared.heap ⟨hp,g,d,tk,os⟩) a0 xs0:=q0
    have L1:zbk b1 (Shared.heap ⟨(zhh hp b0 a0 b1 a1),g,d,tk,os⟩) a1 xs1:=(q1).push _
    wp_walk using zhr L0,zhr L1
    exact ⟨_,rfl,h⟩
theorem zpn {prog:Program}{w:World}{A:Around}{E:Value->Shared->Prop}{s:Shared}{a0 a1:Nat}{b0 b1:Bool}{xs0 xs1:Array Value}{Q:Value->Shared->Prop} (q0:zbk b0 s.heap a0 xs0) (q1:zbk b1 s.heap a1 xs1)
    (h:∀ h',zgm s.heap.objs.size b0 a0 b1 a1 0 h' .none->(∀ c o,s.heap.get? c=some o->h'.get? c=some o)->Q (.ref (s.heap.objs.size+4)) {s with heap:=h'}) :
    wpAny (model prog w) A (call (.type "zip") [.ref a0,.ref a1]) Q E s:=by
  refine callType_new F.called_zip (by decide) (F.typeCall_zip_2 _ _) (F.newCall_zip_2 _ _) (fun obj=>F.args_object_init_3 obj _ _) F.entry_zip_new (znl b0 a0 b1 a1 xs0 xs1) ⟨q0,q1,?_⟩
  have z1:(zhh s.heap b0 a0 b1 a1).objs.size=s.heap.objs.size+1:=by rw [Heap.size_push]
  have z2:(zkl s.heap b0 a0 b1 a1).objs.size=s.heap.objs.size+2:=by rw [Heap.size_push,z1]
  have z3:(zkk s.heap b0 a0 b1 a1).objs.size=s.heap.objs.size+3:=by rw [Heap.size_push,z2]
  have z4:(zkj s.heap b0 a0 b1 a1).objs.size=s.heap.objs.size+4:=by rw [Heap.size_push,z3]
  have z5:(zfl s.heap b0 a0 b1 a1).objs.size=s.heap.objs.size+5:=by rw [Heap.size_push,z4]
  have g1:(zfl s.heap b0 a0 b1 a1).get? s.heap.objs.size=some _:=Heap.get?_push_of_some _ (Heap.get?_push_of_some _ (Heap.get?_push_of_some _ (Heap.get?_push_of_some _ (Heap.get?_push_size _ rfl))))
  have g2:(zfl s.heap b0 a0 b1 a1).get? (zhh s.heap b0 a0 b1 a1).objs.size=some _:=Heap.get?_push_of_some _ (Heap.get?_push_of_some _ (Heap.get?_push_of_some _ (Heap.get?_push_size _ rfl)))
  have g3:(zfl s.heap b0 a0 b1 a1).get? (zkl s.heap b0 a0 b1 a1).objs.size=some _:=Heap.get?_push_of_some _ (Heap.get?_push_of_some _ (Heap.get?_push_size _ rfl))
  have g4:(zfl s.heap b0 a0 b1 a1).get? (zkk s.heap b0 a0 b1 a1).objs.size=some _:=Heap.get?_push_of_some _ (Heap.get?_push_size _ rfl)
  have g5:(zfl s.heap b0 a0 b1 a1).get? (zkj s.heap b0 a0 b1 a1).objs.size=some _:=Heap.get?_push_size _ rfl
  show _ /\ _
  rw [z1] at g2
  rw [z2] at g3
  rw [z3] at g4
  rw [z4] at g5
  rw [z1] at g3
  rw [z2,z3] at g5
  rw [z4]
  exact ⟨⟨_,g5,rfl⟩,h _ ⟨g5,g3,⟨_,_,g4⟩,zbt.new g1,zbt.new g2⟩ fun c o x=>Heap.get?_push_of_some _ (Heap.get?_push_of_some _ (Heap.get?_push_of_some _ (Heap.get?_push_of_some _ (Heap.get?_push_of_some _ (x)))))⟩
def zgp (d0 d1:D):Walk:=fun M=>(zbr M d0).bind fun y0=>(zbr M d1).map fun y1=>zef y0 y1
def zgr (g0 g1:Env->Mem->Res D):Env->Mem->Res Walk:=fun ρ M=>(g0 ρ M).bind fun d0 M=>(g1 ρ M).bind fun d1 M=>if zcu d0&&zcu d1 then .ok (zgp d0 d1) M else .bad
theorem zkw:∀ (y0 y1:List D) (i:Nat) (d:D),(zef y0 y1)[i]?=some d↔∃ e0 e1,y0[i]?=some e0 /\ y1[i]?=some e1 /\ d=.tup [e0,e1]
  | c0::t0,c1::t1,0,d=>by simp [zef,eq_comm]
  | c0 :: t0, c1 :: t1, i + 1, d => by
    have:=zkw t0 t1 i d
    simpa [zef] using this
  | [],_,i,d=>by simp [zef]
  | _::_,[],i,d=>by simp [zef]
theorem zkv:∀ (y0 y1:List D) (i:Nat),(zef y0 y1).length≤i->y0.length≤i \/ y1.length≤i
  | c0::t0,c1::t1,0,h=>by simp [zef] at h
  | c0 :: t0, c1 :: t1, i + 1, h => by
    have:=zkv t0 t1 i (by simpa [zef] using h)
    simpa using this
  | [],_,i,h=>by simp
  | _::_,[],i,h=>by simp
theorem zog {fa:Fa}{X:Cx}{μ0:Mu}{H0:Hp}{d0 d1:D}{a0 a1:Nat} (r0:Rep fa X.K μ0 H0 d0 (.ref a0)) (r1:Rep fa X.K μ0 H0 d1 (.ref a1)):zc9 fa X.K μ0 H0 (zgp d0 d1) (Itz2 X.K (zd6 d0) a0 (zd6 d1) a1):=fun μ H M ds x hM e=>by
  unfold zgp at e
  cases s0:zbr M d0 with
  | none=>simp [s0] at e
  | some y0=>
  cases s1:zbr M d1 with
  | none=>simp [s0,s1] at e
  | some y1=>
  simp only [s0,s1,Option.bind_some,Option.map_some,Option.some.injEq] at e
  subst e
  obtain ⟨v0,q0,l0⟩:=zg5 hM (Rep.extW x r0) s0
  obtain ⟨v1,q1,l1⟩:=zg5 hM (Rep.extW x r1) s1
  refine ⟨fun i d hd=>?_,fun i hi=>⟨v0,v1,q0,q1,?_⟩⟩
  · obtain ⟨e0,e1,h0,h1,rfl⟩:=(zkw y0 y1 i d).mp hd
    obtain ⟨w0,hw0,rw0⟩:=l0.get h0
    obtain ⟨w1,hw1,rw1⟩:=l1.get h1
    refine ⟨⟨⟨v0,w0,q0,hw0⟩,⟨v1,w1,q1,hw1⟩⟩,fun y H' ⟨p,x0,x1,hp,ey,eH,t0,t1⟩=>?_⟩
    have z0:=t0 v0 q0
    rw [hw0] at z0;cases z0
    have z1:=t1 v1 q1
    rw [hw1] at z1;cases z1
    subst eH ey
    exact ⟨Ext.alloc hM hp,hM.alloc hp,p,[w0,w1],rfl,.inl (.inl zbg),⟨w0,[w1],rfl,rw0.ext (Ext.alloc hM hp),⟨w1,[],rfl,rw1.ext (Ext.alloc hM hp),rfl⟩⟩⟩
  · rcases zkv y0 y1 i hi with z | z
    · exact .inl (by rw [l0.length];exact z)
    · exact .inr (by rw [l1.length];exact z)
theorem ztu {fa:Fa}{X:Cx}{elts:List PySem.Expr}{kk:Nat}{tp p pos:Pos}{e0 e1:PySem.Expr}{g0 g1:Env->Mem->Res D} (h0:DE fa X e0 g0) (h1:DE fa X e1 g1) (hg:Gl X "zip") (hm:X.mg "zip"=none)
    (hs0:starEach [e0,e1] X.env=[(false,eval e0 X.env),(false,eval e1 X.env)]) (hs1:starEach [e1] X.env=[(false,eval e1 X.env)]):DI fa X (.Tuple elts kk tp) (.Call (.Name "zip" p) [e0,e1] [] pos) (zgr g0 g1):=by
  intro pins s σ H R I ⟨μ,ρ,M,hE,hM,h⟩
  obtain ⟨d0,M0,c0,t0⟩:=za5 h
  obtain ⟨d1,M1,c1,t1⟩:=za5 t0
  split at t1
  · next hsq=>
    simp only [Bool.and_eq_true] at hsq
    obtain ⟨hq0,hq1⟩:=hsq
    refine Call_ (zfi I hg hm boot_zip (PyProof.Rows.callWith_type1 (thn (zbu h0 (zbu h1 zc6 hs1) (by rw [hs0,hs1]) pos pins s σ H (fun vs H1=>∃ v0 v1 μ1,vs=[v0,v1] /\ Ext μ H μ1 H1 /\ RelM fa X.K μ1 H1 M1 /\ Rep fa X.K μ1 H1 d0 v0 /\ Rep fa X.K μ1 H1 d1 v1) I ?_) fun us s1 ⟨vs,H1,I1,r1,v0,v1,μ1,ev,x1,m1,rv0,rv1⟩=>?_) (by rw [hs0,hs1]) (by rw [hs1];rfl)))
    · refine ⟨μ,ρ,M,hE,hM,?_⟩
      rw [c0]
      intro v0 H1 μ1 x1 m1 r0
      refine ⟨μ1,ρ,M0,(hE.ext x1),m1,?_⟩
      rw [c1]
      intro v1 H2 μ2 x2 m2 r1
      exact ⟨v0,v1,μ2,rfl,(x1.trans x2),m2,(r0.ext x2),r1⟩
    subst ev
    obtain ⟨a0,its0,rfl,z0⟩:=zk9 I1 m1 rv0 hq0
    obtain ⟨a1,its1,rfl,z1⟩:=zk9 I1 m1 rv1 hq1
    cases r1 with
    | cons y0 r1 =>
      cases r1 with
      | cons y1 r1 =>
        cases r1
        obtain rfl:=y0
        obtain rfl:=y1
        refine zpn z0 z1 fun h1 za hk=>?_
        have I2:Inv X pins σ H1 {s1 with heap:=h1}:=I1.kept (t':=s1.toks) hk
        refine wpAny_pyIter_zip (s:={s1 with heap:=h1}) za.1 ?_
        refine ⟨s1.heap.objs.size+4,[s1.heap.objs.size+4,s1.heap.objs.size,s1.heap.objs.size+1,s1.heap.objs.size+2,s1.heap.objs.size+3],_,_,H1,rfl,I2,zom s1.heap.objs.size (zd6 d0) a0 (zd6 d1) a1 ⟨z0.lt,z1.lt⟩,za,fun b hb=>?_,t1 _ H1 μ1 x1 m1 (zog rv0 rv1)⟩
        have hb:s1.heap.objs.size≤b:=by
          simp only [List.mem_cons,List.not_mem_nil,or_false] at hb
          rcases hb with z | z | z | z | z<;>(rw [z];first | exact Nat.le_refl _ | exact Nat.le_add_right _ _)
        exact I1.fpOk hb (I1.hok.fresh hb)
  · exact t1.elim
def zmf (n:Nat) (b0:Bool) (a0:Nat) (b1:Bool) (a1:Nat) (b2:Bool) (a2:Nat) (i:Nat) (h:Heap) (f0:Value):Prop:=IsZip h (n+5) (n+3) (n+4) f0 /\ h.get? (n+3)=some {cls:=.type "tuple",data:=.seq #[.ref n,.ref (n+1),.ref (n+2)]} /\ (∃ u0 u1 u2,h.get? (n+4)=some {cls:=.type "tuple",data:=.seq #[u0,u1,u2]}) /\ zbt b0 h n a0 i /\ zbt b1 h (n+1) a1 i /\ zbt b2 h (n+2) a2 i
theorem zmf.keep {n i:Nat}{a0 a1 a2:Nat}{b0 b1 b2:Bool}{h h':Heap}{f0:Value} (x:zmf n b0 a0 b1 a1 b2 a2 i h f0) (k:∀ b∈[(n+5),n,(n+1),(n+2),(n+3),(n+4)],∀ o,h.get? b=some o->h'.get? b=some o):zmf n b0 a0 b1 a1 b2 a2 i h' f0:=by
  obtain ⟨h1,h2,⟨u0,u1,u2,h3⟩,j0,j1,j2⟩:=x
  exact ⟨k _ (by simp) _ h1,k _ (by simp) _ h2,⟨u0,u1,u2,k _ (by simp) _ h3⟩,j0.at fun o e=>k _ (by simp) o e,j1.at fun o e=>k _ (by simp) o e,j2.at fun o e=>k _ (by simp) o e⟩
def zipW3 (d0 d1 d2:D):Walk:=fun M=>(zbr M d0).bind fun y0=>(zbr M d1).bind fun y1=>(zbr M d2).map fun y2=>zip3L y0 y1 y2
def znt (g0 g1 g2:Env->Mem->Res D):Env->Mem->Res Walk:=fun ρ M=>(g0 ρ M).bind fun d0 M=>(g1 ρ M).bind fun d1 M=>(g2 ρ M).bind fun d2 M=>if zcu d0&&zcu d1&&zcu d2 then .ok (zipW3 d0 d1 d2) M else .bad
end LD
namespace LD
open PySem PySem.Spec PyProof.Rows L2
abbrev GE:=Env->Mem->Res D
abbrev GT:=Env->Mem->Res Bool
abbrev GA:=Env->Mem->Res (List D)
abbrev GW:=Env->Mem->Res Walk
abbrev GS:=Env->Mem->Res Fl
abbrev GB:=Env->List D->Mem->Res (List D)
abbrev Call:=Nat->List D->Mem->Res D
def zab (i:Nat):GE:=fun ρ M=>ofO M (ρ[i]?.getD none)
def gC (d:D):GE:=fun _ M=>.ok d M
def zak (m:Bool) (o:Bin) (a b:GE):GE:=fun ρ M=>(a ρ M).bind fun x M=>(b ρ M).bind fun y M=>zdc m o x y M
def zaw (o:Cmp) (a b:GE):GE:=fun ρ M=>(a ρ M).bind fun x M=>(b ρ M).bind fun y M=>(ofO M (zcv o x y M)).bind fun b M=>.ok (.bl b) M
def gChn (o o':Cmp) (a b c:GE):GE:=fun ρ M=>(a ρ M).bind fun x M=>(b ρ M).bind fun y M=>(ofO M (zcv o x y M)).bind fun k M=>
  if k then (c ρ M).bind fun z M=>(ofO M (zcv o' y z M)).bind fun b M=>.ok (.bl b) M else .ok (.bl false) M
def zei (a:GE):GE:=fun ρ M=>(a ρ M).bind fun x M=>match x with | .int i=>.ok (.int (-i)) M | _=>.bad
def zcs (a b:GE):GE:=fun ρ M=>(a ρ M).bind fun x M=>match x with | .bl true=>b ρ M | .bl false=>.ok (.bl false) M | _=>.bad
def gOr (a b:GE):GE:=fun ρ M=>(a ρ M).bind fun x M=>match x with | .bl true=>.ok (.bl true) M | .bl false=>b ρ M | _=>.bad
def gNot (a:GE):GE:=fun ρ M=>(a ρ M).bind fun x M=>match x with | .bl k=>.ok (.bl (!k)) M | _=>.bad
def gIte (t:GT) (a b:GE):GE:=fun ρ M=>(t ρ M).bind fun k M=>if k then a ρ M else b ρ M
def zaq (a b:GE):GE:=fun ρ M=>(a ρ M).bind fun x M=>(b ρ M).bind fun y M=>ofO M (zf7 x y M)
def zcm (m hl hh:Bool) (a lo hi:GE):GE:=fun ρ M=>(a ρ M).bind fun x M=>(lo ρ M).bind fun l M=>(hi ρ M).bind fun h M=>if zc5 hl l&&zc5 hh h then slcD m x l h M else .bad
def zad:GA:=fun _ M=>.ok [] M
def zaa (a:GE) (s:GA):GA:=fun ρ M=>(a ρ M).bind fun x M=>(s ρ M).bind fun xs M=>.ok (x::xs) M
def zby (s:GA):GE:=fun ρ M=>(s ρ M).bind zh3
def za2 (m:Bool) (s:GA):GE:=fun ρ M=>(s ρ M).bind (zbh m)
def zah (f:Nat) (c:Call) (s:GA):GE:=fun ρ M=>(s ρ M).bind fun ds M=>c f ds M
def zh9 (i:Nat) (c:Call) (s:GA):GE:=fun ρ M=>match ρ[i]?.getD none with | some (.fn f)=>(s ρ M).bind fun ds M=>c f ds M | _=>.bad
def za1 (f:Blt) (s:GA):GE:=fun ρ M=>(s ρ M).bind fun ds M=>zdg f ds M
def zbj (t:Ty) (a:GE):GE:=fun ρ M=>(a ρ M).bind fun x M=>(ofO M (zfu t x)).bind fun b M=>.ok (.bl b) M
def zam (a:GE):GT:=fun ρ M=>(a ρ M).bind fun x M=>ofO M (zf4 M x)
def zfp (a b:GT):GT:=fun ρ M=>(a ρ M).bind fun k M=>if k then b ρ M else .ok false M
def tOr (a b:GT):GT:=fun ρ M=>(a ρ M).bind fun k M=>if k then .ok true M else b ρ M
def zbf (a:GT):GT:=fun ρ M=>(a ρ M).bind fun k M=>.ok (!k) M
def zan (t:Tgt) (a:GE):GS:=fun ρ M=>(a ρ M).bind fun x M=>(ofO M (zcj t x ρ)).bind fun ρ1 M=>.ok (.next ρ1) M
def zdf (a b d:GE):GS:=fun ρ M=>(d ρ M).bind fun z M=>(a ρ M).bind fun x M=>(b ρ M).bind fun y M=>match x,y with
  | .cell k, .int n => match M[k]? with
    | some ds => match ixN ds.length n with
      | some j=>.ok (.next ρ) (M.set k (ds.set j z))
      | none=>.bad
    | none=>.bad
  | _,_=>.bad
def zg9 (a d:GE):GS:=fun ρ M=>(a ρ M).bind fun x M=>(d ρ M).bind fun z M=>match x with
  | .cell k => match M[k]? with
    | some ds=>if ds.length < sz then .ok (.next ρ) (M.set k (ds++[z])) else .bad
    | none=>.bad
  | _=>.bad
def sEx (a:GE):GS:=fun ρ M=>(a ρ M).bind fun _ M=>.ok (.next ρ) M
def zal (a:GE):GS:=fun ρ M=>(a ρ M).bind fun x M=>.ok (.ret x) M
def sRetN:GS:=fun _ M=>.ok (.ret .non) M
def sPass:GS:=fun ρ M=>.ok (.next ρ) M
def zg8:GS:=fun _ _=>.bad
def zav (c:GT) (a b:GS):GS:=fun ρ M=>(c ρ M).bind fun k M=>if k then a ρ M else b ρ M
def zc4 (t:Tgt) (w:GW) (b:GS):GS:=fun ρ M=>(w ρ M).bind fun w M=>zdh (zel t b) w (.next ρ) M
def zae:GS:=fun ρ M=>.ok (.next ρ) M
def zac (a b:GS):GS:=fun ρ M=>(a ρ M).bind fun fl M=>match fl with
  | .next ρ=>b ρ M
  | fl=>.ok fl M
def notStar:PySem.Expr->Bool
  | .Starred _ _=>false
  | _=>true
theorem zb2 {a:PySem.Expr}{es:List PySem.Expr}{env:PySem.Env} (h:notStar a=true):starEach (a::es) env=(false,eval a env)::starEach es env:=by
  cases a<;>first | rfl | cases h
theorem zd0 {pos:Pos}{env:PySem.Env}:∀ {es:List PySem.Expr},es.all notStar=true->(backTo pos (starEach es env)).any (·.1)=false
  | [],_=>rfl
  | a :: es, h => by
    simp only [List.all_cons,Bool.and_eq_true] at h
    have ih:=zd0 (pos:=pos) (env:=env) h.2
    rw [zb2 h.1]
    simpa [backTo] using ih
section
variable {fa:Fa}{X:Cx}{a b d:PySem.Expr}{ga gb gd:GE}{ta tb:GT}{pos p:Pos}{es:List PySem.Expr}{gs:GA}{n:Nat}
theorem r_var {i:Nat}{x:Str} (hN:X.N[i]?=some x) (hv:Vis X.env.scope x) (hd:(x==("__debug__":Str))=false) (hcd:(x==("__classdict__":Str))=false):DE fa X (.Name x pos) (zab i):=d_var hN hv hd hcd
theorem r_int {i:Int}{j:Nat}:DE fa X (.Constant (.int i) j pos) (gC (.int i)):=d_int
theorem r_bl {i:Bool}{j:Nat}:DE fa X (.Constant (.bool i) j pos) (gC (.bl i)):=d_bl
theorem r_str {i:Str}{j:Nat}:DE fa X (.Constant (.str i) j pos) (gC (.str i)):=d_str
theorem r_non {j:Nat}:DE fa X (.Constant .none j pos) (gC .non):=d_non
theorem r_bin (m:Bool) (o:Bin) (ha:DE fa X a ga) (hb:DE fa X b gb):DE fa X (.BinOp a (binOp o) b pos) (zak m o ga gb):=d_bin m o ha hb
theorem r_cmp (hu:Rm X) (o:Cmp) (ha:DE fa X a ga) (hb:DE fa X b gb) (hm:behindInMarks (zdt o) b=false):DE fa X (.Compare a [zdt o] [b] pos) (zaw o ga gb):=d_cmp hu o ha hb hm
theorem q_cmp (hu:Rm X) (o:Cmp) (ha:DE fa X a ga) (hb:DE fa X b gb) (hm:behindInMarks (zdt o) b=false):DT fa X (.Compare a [zdt o] [b] pos) (zam (zaw o ga gb)):=dt_cmp hu o ha hb hm
theorem r_and {rest:List PySem.Expr} (ha:DE fa X a ga) (hb:DE fa X (.BoolOp .And (b::rest) pos) gb):DE fa X (.BoolOp .And (a::b::rest) pos) (zcs ga gb):=d_and ha hb
theorem r_one {op:PySem.BoolOp} (ha:DE fa X a ga):DE fa X (.BoolOp op [a] pos) ga:=d_one ha
theorem q_or {rest:List PySem.Expr} (ha:DT fa X a ta) (hb:DW fa X (.BoolOp .Or (b::rest) pos) tb):DW fa X (.BoolOp .Or (a::b::rest) pos) (tOr ta tb):=dw_or ha hb
theorem q_or1 (ha:DT fa X a ta):DW fa X (.BoolOp .Or [a] pos) ta:=dw_or1 ha
theorem q_w (h:DW fa X a ta):DT fa X a ta:=PW.pt h
theorem q_not (ha:DT fa X a ta):DT fa X (.UnaryOp .Not a pos) (zbf ta):=dt_not ha
theorem q_tru (ha:DE fa X a ga) (he:∀ whole,isTrue a X.env whole=(do let v <- whole;standAt a.pos;holding [v] (truthy v))):DT fa X a (zam ga):=zq7 ha he
theorem r_idx (ha:DE fa X a ga) (hb:DE fa X b gb) (hs:zgw b):DE fa X (.Subscript a b pos) (zaq ga gb):=d_idx ha hb hs
theorem r_slc (m hl hh:Bool) {lo hi:Option PySem.Expr}{gl gh:GE}{p2:Pos} (ha:DE fa X a ga) (hlo:DO fa X lo hl gl) (hhi:DO fa X hi hh gh):DE fa X (.Subscript a (.Slice lo hi none p2) pos) (zcm m hl hh ga gl gh):=d_slc m hl hh ha hlo hhi
theorem o_none:DO fa X none false (gC .non):=ztt
theorem o_some (ha:DE fa X a ga):DO fa X (some a) true ga:=zts ha
theorem a_nil:DA fa X [] zad:=da_nil
theorem a_cons (ha:DE fa X a ga) (hs:DA fa X es gs) (h0:notStar a=true):DA fa X (a::es) (zaa ga gs):=zt0 ha hs (zb2 h0)
theorem r_lst (m:Bool) (hs:DA fa X es gs):DE fa X (.List es pos) (za2 m gs):=d_lst m hs
theorem r_call (f:Nat) {x:Str}{call:Call} (C:∀ f,zee fa X.prog X.w X.K X.mg X.base n f (call f)) (hr:zbd (n+4) X.A) (hg:Gl X x) (hm:∀ ad,fa f=some ad->X.mg x=some (.ref ad)) (hs:DA fa X (a::es) gs)
    (hdb:(x==("__debug__":Str))=false) (he:notStar a=true) (hpl:es.all notStar=true):DE fa X (.Call (.Name x p) (a::es) [] pos) (zah f call gs):=d_call (C f) hr hg hm hs hdb (zb2 he) (zd0 hpl)
theorem r_len (hg:Gl X "len") (hm:X.mg "len"=none) (hs:DA fa X (a::es) gs) (he:notStar a=true) (hpl:es.all notStar=true) :
    DE fa X (.Call (.Name "len" p) (a::es) [] pos) (za1 .len gs):=d_blt .len f_len hg hm PySem.boot_len hs (by decide) (by decide) (zb2 he) (zd0 hpl)
theorem r_list (m:Bool) (hg:Gl X "list") (hm:X.mg "list"=none) (hs:DA fa X (a::es) gs) (he:notStar a=true) (hpl:es.all notStar=true) :
    DE fa X (.Call (.Name "list" p) (a::es) [] pos) (za1 (.list m) gs):=d_bltT (.list m) (f_list m) hg hm (by decide +kernel) hs (by decide) (by decide) (zb2 he) (zd0 hpl)
theorem r_inst (t:Ty) (ht:∀ c,t≠.own c) {x:Str}{p1 p2:Pos} (ha:DE fa X a ga) (hg:Gl X "isinstance") (hm:X.mg "isinstance"=none) (hgt:Gl X x) (hmt:X.mg x=none) (hvt:bootBuiltins x=some (.type (tyName t)))
    (hn:x≠"__name__") (hdb:(x==("__debug__":Str))=false) (he:starEach [a,.Name x p1] X.env=(false,eval a X.env)::starEach [.Name x p1] X.env):DE fa X (.Call (.Name "isinstance" p2) [a,.Name x p1] [] pos) (zbj t ga):=
  d_inst t ht ha hg hm (by decide +kernel) hgt hmt hvt hn hdb he
theorem s_asg {tg:PySem.Expr}{t:Tgt} (ha:DE fa X a ga) (hg:PG X tg (gT fa X.K t)) (hs:swapsWithSole [tg] a pos.line X.env=pure false) (hw:swappedStores [tg] a X.env=pure none) (h1:(assignEach [tg] X.env).map (·.2)=[assign tg X.env]) :
    DS fa X (.Assign [tg] a pos) (zan t ga):=ds_asg ha hg hs hw h1
theorem s_put {p2:Pos} (ha:DE fa X a ga) (hb:DE fa X b gb) (hd:DE fa X d gd)
    (h0:∀ v,assign (.Subscript a b p2) X.env v=(do
      let ov <- holding [v] (eval a X.env)
      let iv <- holding [v,ov] (eval b X.env)
      standAt p2
      holding [v,ov,iv] (setItem ov iv v)
      release [v,ov,iv] [])) (hs:swapsWithSole [.Subscript a b p2] d pos.line X.env=pure false) (hw:swappedStores [.Subscript a b p2] d X.env=pure none) (h1:(assignEach [.Subscript a b p2] X.env).map (·.2)=[assign (.Subscript a b p2) X.env]) :
    DS fa X (.Assign [.Subscript a b p2] d pos) (zdf ga gb gd):=ds_put ha hb hd h0 hs hw h1
theorem s_ret (ha:DE fa X a ga):DS fa X (.Return (some a) pos) (zal ga):=ds_ret ha
theorem s_ite {c:PySem.Expr}{st sf:List PySem.Stmt}{gt gf:GS} (hc:DT fa X c ta) (ht:DSs fa X st gt) (hf:DSs fa X sf gf):DS fa X (.If c st sf pos) (zav ta gt gf):=ds_ite hc ht hf
theorem s_for {t:Tgt}{tg:PySem.Expr}{body:List PySem.Stmt}{gw:GW}{gb:GS} (hp:PassesOwn (model X.prog X.w) X.A X.env X.xe) (hc:X.calm=true) (hi:DI fa X tg a gw) (hg:PG X tg (gT fa X.K t)) (hb:DSs fa X body gb)
    (hs:∀ x,foldedSetIterable a X.env x=pure x):DS fa X (.For tg a body [] pos) (zc4 t gw gb):=ds_for hp hc hi hg hb hs
theorem s_comp (m:Bool) {i:Nat}{y:Str}{py spos:Pos}{elt tg iter:PySem.Expr}{ifs:List PySem.Expr}{rest:List Comprehension}{scope:Scope}{own bn:List Str}{t:Tgt}{W:List Nat}{body:Addr->PySem.Env->Sem Unit}{gw:GW}{g:GB}
    (S:zdo X own bn scope) (hcalm:X.calm=true) (hi:DI fa X tg iter gw) (B:Block fa X own bn scope tg t W body g) (hT:zih X elt tg iter ifs rest scope pos body) (hW:∀ i∈W,i∉slots t) (hn:∀ i∈slots t++W,i < own.length)
    (hs:∀ x,foldedSetIterable iter X.env x=pure x) (hN:X.N.Nodup) (hy:X.N[i]?=some y) (hl:X.env.scope.names.lookup y=some .local)
    (hsw:swapsWith (.ListComp elt (⟨tg,iter,ifs,0⟩::rest) scope pos) (some (.Name y py)) spos.line X.env=pure true) :
    DS fa X (.Assign [.Name y py] (.ListComp elt (⟨tg,iter,ifs,0⟩::rest) scope pos) spos) (zan (.one i) (za8 m own.length t gw g)):=zny m S hcalm hi B hT hW hn hs hN hy hl hsw
theorem ss_nil:DSs fa X [] zae:=ztr
theorem zsj {st:PySem.Stmt}{ss:List PySem.Stmt}{g g':GS} (h1:DS fa X st g) (h2:DSs fa X ss g'):DSs fa X (st::ss) (zac g g'):=zq8 h1 h2
end
structure Df where
  params:Nat
  slots:Nat
  body:Call->GS
def finD:Fl->Mem->Res D
  | .ret d,M=>.ok d M
  | .next _,M=>.ok .non M
  | .exc x _,M=>.err x M
def finR:Res Fl->Res D
  | .ok fl M=>finD fl M
  | _=>.bad
def zeg (c:Call) (d:Df) (ds:List D) (M:Mem):Res D:=if ds.length=d.params then finR (d.body c (ds.map some++List.replicate (d.slots - ds.length) none) M) else .bad
def za3 (P:Nat->Option Df):Nat->Call
  | 0,_,_,_=>.bad
  | n + 1, f, ds, M => match P f with
    | none=>.bad
    | some d=>zeg (za3 P n) d ds M
structure zku (fa:Fa) (P:Program) (w:World) (K:PySem.W.Frag) (mg:Str->Option Value) (base:Heap) (f:Nat) (d:Df):Prop where
  ex:∃ (ad:Addr) (fd:FuncData) (ps N:List Str) (st:PySem.Stmt) (x qual:Str),fa f=some ad /\ Fun K x qual st ad fd /\ Binds K fd ps [] /\ zbw N ps (zai st) /\ d.params=ps.length /\ d.slots=N.length /\
    ∀ (call : Call) (n : Nat) (cdv : Value) (A : Around) (outer : List PySem.Env) (s : Shared) (H : Hp) (E : XK), (∀ f, zee fa P w K mg base n f (call f)) -> zbd (n + 4) (A.deeper (envOfC qual (zai st) s.heap.objs.size ad cdv)) ->
      DSs fa (zca (CXE P w) P w K mg base N qual (zai st) ad cdv A outer s H E) (zbe st) (d.body call)
theorem zop {fa:Fa}{K:PySem.W.Frag}{μ:Mu}{H:Hp}{N:List Str}{ds:List D}{vs:List V} (h:zat fa K μ H ds vs):za4 fa K μ H (L2.start N vs) (ds.map some++List.replicate (N.length - ds.length) none):=by
  have hl:=h.length
  refine ⟨by unfold L2.start;simp [hl],fun i d e=>?_⟩
  by_cases hi:i < ds.length
  · rw [List.getElem?_append_left (by simpa using hi),List.getElem?_map] at e
    cases e1:ds[i]? with
    | none=>rw [e1] at e;cases e
    | some d' =>
      rw [e1] at e
      cases e
      obtain ⟨v,hv,rv⟩:=h.get e1
      refine ⟨v,?_,rv⟩
      unfold L2.start
      rw [List.getElem?_append_left (by simp;omega),List.getElem?_map,hv]
      rfl
  · rw [List.getElem?_append_right (by simp;omega),List.getElem?_replicate] at e
    split at e<;>cases e
theorem zi2 {P:Program}{w:World}{K:PySem.W.Frag}{mg:Str->Option Value}{base:Heap}{x qual:Str}{st:PySem.Stmt}{f:Addr}{fd:FuncData}{N ps:List Str}{k:Nat}{sp:Sp} (F:Fun K x qual st f fd) (S:zbw N ps (zai st)) (len:∀ vs H Q E,sp vs H Q E->vs.length=ps.length)
    (hbody:∀ (cdv:Value) (A:Around) (outer:List PySem.Env) (s:Shared) (H:Hp) (vs:List V) (Q:VK) (E:XK),zbd k (A.deeper (envOfC qual (zai st) s.heap.objs.size f cdv))->sp vs H Q E->
      ∃ t,PSs (zca (CXE P w) P w K mg base N qual (zai st) f cdv A outer s H E) (zbe st) t /\ t {nx:=fun _ H'=>Q .non H',rt:=Q} (start N vs) H):zdm P w K mg base (CXE P w) (k+1) f fd ps sp:=by
  obtain ⟨oc,od,kV,doc,pm,an,cdv,ct,osl,rfl,lk,hcd⟩:=F.ex
  exact fn_of lk hcd S len fun A outer s H vs Q E hr hsp=>hbody cdv A outer s H vs Q E hr hsp
theorem zjy {fa:Fa}{P:Program}{w:World}{K:PySem.W.Frag}{mg:Str->Option Value}{base:Heap}{N:List Str}{qual:Str}{scope:Scope}{f:Addr}{cd:Value}{A:Around}{outer:List PySem.Env}{s:Shared}{H:Hp}{E:XK}{Q:VK}{d:Df}{c:Call}{ds:List D}{vs:List V}{μ:Mu}{M:Mem}
    (hs:d.slots=N.length) (hM:RelM fa K μ H M) (hr:zat fa K μ H ds vs) (hq:okX (zeg c d ds M) (zbb fa K μ H Q) (zn5 fa K μ H E)):tF fa (zca (CXE P w) P w K mg base N qual scope f cd A outer s H E) (d.body c) {nx:=fun _ H'=>Q .non H',rt:=Q} (start N vs) H:=by
  unfold zeg at hq
  split at hq
  · refine ⟨μ,_,M,zop hr,hM,?_⟩
    rw [<- hs]
    cases e1:d.body c (ds.map some++List.replicate (d.slots - ds.length) none) M with
    | ok fl M1 =>
      rw [e1] at hq
      cases fl with
      | next ρ' =>
        have q1:zbb fa K μ H Q .non M1:=hq
        exact fun σ' H' μ' x' e' m'=>q1 .non H' μ' x' m' rfl
      | ret d=>exact hq
      | exc x ρ' =>
        have q1:zn5 fa K μ H E x M1:=hq
        exact fun pins σ' H' μ' s' a C dx c p I y _ m ex hc hn fl=>zqu I fl (q1 C dx c p H' μ' y m ex hc hn)
    | err=>rw [e1] at hq;exact hq.elim
    | bad=>rw [e1] at hq;exact hq.elim
  · exact hq.elim
theorem zl8 {fa:Fa}{P:Program}{w:World}{K:PySem.W.Frag}{mg:Str->Option Value}{base:Heap}{Pg:Nat->Option Df} (h:∀ f d,Pg f=some d->zku fa P w K mg base f d):∀ (n f:Nat),zee fa P w K mg base n f (za3 Pg n f)
  | 0,f=>.inl fun _ _=>rfl
  | n + 1, f => by
    have ih:=zl8 h n
    cases e:Pg f with
    | none=>exact .inl fun ds M=>by show (match Pg f with | none=>Res.bad | some d=>zeg (za3 Pg n) d ds M)=Res.bad;rw [e]
    | some d =>
      have eq:∀ ds M,za3 Pg (n+1) f ds M=zeg (za3 Pg n) d ds M:=fun ds M=>by show (match Pg f with | none=>Res.bad | some d=>zeg (za3 Pg n) d ds M)=_;rw [e]
      obtain ⟨ad,fd,ps,N,st,x,qual,h1,F,hb,S,hp,hs,hbody⟩:=(h f d e).ex
      refine .inr ⟨ad,fd,ps,h1,F.kp,hb,fun ds M hl=>?_,?_⟩
      · rw [eq];unfold zeg;rw [if_neg (by rw [hp];exact hl)]
      · refine zi2 (k:=n+4) F S (fun vs H Q E hsp=>hsp.1) fun cdv A outer s H vs Q E hr hsp=>⟨_,hbody (za3 Pg n) n cdv A outer s H E ih hr,?_⟩
        obtain ⟨hl,μ,M,ds,hM,hr,hq⟩:=hsp
        rw [eq] at hq
        exact zjy hs hM hr hq
end LD
namespace LD
open PySem PySem.Spec PyProof.Rows L2
def zn8 (fa:Fa) (kvs:List (Str×Addr)) (fs:List (Str×Nat)):Prop:=Paired (fun (p:Str×Addr) (q:Str×Nat)=>p.1=q.1 /\ fa q.2=some p.2) kvs fs
theorem zn8.look {fa:Fa}{k:Str}:∀ {kvs:List (Str×Addr)}{fs:List (Str×Nat)},zn8 fa kvs fs->(fs.lookup k=none /\ kvs.lookup k=none) \/ ∃ f ad,fs.lookup k=some f /\ kvs.lookup k=some ad /\ fa f=some ad
  | _,_,.nil=>.inl ⟨rfl,rfl⟩
  | (x, a) :: r, (y, f) :: t, .cons ⟨e1, e2⟩ q => by
    have e1:x=y:=e1
    subst e1
    rw [List.lookup_cons,List.lookup_cons]
    cases e:k==x with
    | true=>exact .inr ⟨f,a,rfl,rfl,e2⟩
    | false=>exact zn8.look q
def zkr (fs:List (Str×Nat)) (i:GE):GE:=fun ρ M=>(i ρ M).bind fun d M=>match d with
  | .str k=>ofO M ((fs.lookup k).map D.fn)
  | _=>.bad
def znv (fs:List (Str×Nat)) (i:GE):GE:=fun ρ M=>(i ρ M).bind fun d M=>match d with
  | .str k=>.ok (.bl (!(fs.lookup k).isSome)) M
  | _=>.bad
section
variable {fa:Fa}{X:Cx}{a b:PySem.Expr}{ga gb:GE}{pos p:Pos}{ad:Addr}{kvs:List (Str×Addr)}{fs:List (Str×Nat)}{x:Str}
def zly (m:Bool) (a:GE):GE:=fun ρ M=>(a ρ M).bind fun x M=>match x with
  | .int n=>if -(2 ^ 62)≤n /\ n < 2 ^ 20 then zbh m ((List.range n.toNat).map fun (k:Nat)=>D.int (k:Int)) M else .bad
  | _=>.bad
end
end LD
namespace LD
open PySem PySem.Spec PyProof.Rows L2
def zm2 (bn N:List Str) (sc scope:Scope):Bool:=
  scope.names.all (fun y=>y.2 != .cell&&(y.2 != .local||scope.names.lookup y.1==some .local)&&(y.2 != .free||sc.names.lookup y.1==some .cell||sc.names.lookup y.1==some .free)) &&
  bn.length==N.length&&(bn.zip N).all fun p=>(p.1==p.2&&scope.names.lookup p.2 != some .local)||scope.names.lookup p.1==none
theorem zhv {α β:Type}{R:α->β->Prop}:∀ {l:List α}{r:List β},l.length=r.length->(∀ p∈l.zip r,R p.1 p.2)->Paired R l r
  | [],[],_,_=>.nil
  | a::l,b::r,h,g=>.cons (g (a,b) List.mem_cons_self) (zhv (by simpa using h) fun p hp=>g p (List.mem_cons_of_mem _ hp))
  | [],_::_,h,_=>by cases h
  | _::_,[],h,_=>by cases h
theorem ze4 {X:Cx}{own bn N:List Str}{sc scope:Scope} (hk:scope.kind=.function) (hs:X.env.scope=sc) (hN:X.N=N) (h:zm2 bn N sc scope=true):zdo X own bn scope:=by
  unfold zm2 at h
  rw [Bool.and_eq_true,Bool.and_eq_true,List.all_eq_true,List.all_eq_true] at h
  obtain ⟨⟨h1,hl⟩,h2⟩:=h
  refine ⟨hk,fun y hy=>?_,fun y hy e=>?_,fun y hy e=>?_,?_⟩
  · have:=h1 y hy
    simp only [Bool.and_eq_true] at this
    simpa using this.1.1
  · have:=h1 y hy
    simp only [Bool.and_eq_true] at this
    have:=this.1.2
    rw [e] at this
    simpa using this
  · have:=h1 y hy
    simp only [Bool.and_eq_true] at this
    have:=this.2
    rw [e] at this
    show X.env.scope.names.lookup y.1=_ \/ X.env.scope.names.lookup y.1=_
    rw [hs]
    simpa using this
  · rw [hN]
    refine zhv (by simpa using hl) fun p hp=>?_
    have:=h2 p hp
    simp only [Bool.or_eq_true,Bool.and_eq_true,beq_iff_eq,bne_iff_ne] at this
    exact this
section
variable {fa:Fa}{X:Cx}{elt tg iter c t2 i2:PySem.Expr}{scope:Scope}{pos:Pos}{own bn:List Str}{t u:Tgt}{gw gw2:GW}{ge:GE}{gc:GT}
theorem zk6 {n:Nat}{l:List Nat} (h:l.all (· < n)=true):∀ i∈l,i < n:=fun i hi=>by
  have:=List.all_eq_true.mp h i hi
  simpa using this
theorem zss (m:Bool) (S:zdo X own bn scope) (hc:X.calm=true) (hi:DI fa X tg iter gw) (pg:∀ cl C fp s H,PG (zcg X own bn scope cl C fp s H) tg (gT fa X.K t)) (he:∀ cl C fp s H,DE fa (zcg X own bn scope cl C fp s H) elt ge)
    (hn:(slots t).all (· < own.length)=true) (hs:∀ x,foldedSetIterable iter X.env x=pure x):DE fa X (.ListComp elt [⟨tg,iter,[],0⟩] scope pos) (za8 m own.length t gw (zbm ge)):=
  d_comp m (W:=[]) (body:=fun a env=>eval elt env >>= fun x=>call (.builtin "list.append") [.ref a,x] >>= fun _=>pure ()) S hc hi ⟨pg,fun cl C fp s H a=>zpi (he cl C fp s H)⟩ (fun it a env=>zp8 elt tg iter [] scope pos (.ref it) (.ref a) env) (fun i h=>nomatch h) (by simpa using zk6 hn) hs
variable {i:Nat}{y:Str}{py spos:Pos}
theorem zqf (m:Bool) (S:zdo X own bn scope) (hc:X.calm=true) (hi:DI fa X tg iter gw) (pg:∀ cl C fp s H,PG (zcg X own bn scope cl C fp s H) tg (gT fa X.K t)) (ht:∀ cl C fp s H,DT fa (zcg X own bn scope cl C fp s H) c gc) (he:∀ cl C fp s H,DE fa (zcg X own bn scope cl C fp s H) elt ge)
    (hn:(slots t).all (· < own.length)=true) (hs:∀ x,foldedSetIterable iter X.env x=pure x) (hN:X.N.Nodup) (hy:X.N[i]?=some y) (hl:X.env.scope.names.lookup y=some .local)
    (hsw:swapsWith (.ListComp elt [⟨tg,iter,[c],0⟩] scope pos) (some (.Name y py)) spos.line X.env=pure true):DS fa X (.Assign [.Name y py] (.ListComp elt [⟨tg,iter,[c],0⟩] scope pos) spos) (zan (.one i) (za8 m own.length t gw (gIf gc (zbm ge)))):=
  s_comp m (W:=[]) (body:=fun a env=>isTrue c env (eval c env) >>= fun ok=>if ok=true then (eval elt env >>= fun x=>call (.builtin "list.append") [.ref a,x] >>= fun _=>pure ()) else pure ()) S hc hi ⟨pg,fun cl C fp s H a=>db_if (ht cl C fp s H) (zpi (he cl C fp s H))⟩ (fun it a env=>turn_if elt tg iter c scope pos (.ref it) (.ref a) env) (fun i h=>nomatch h) (by simpa using zk6 hn) hs hN hy hl hsw
end
end LD
namespace LD
open PySem PySem.Spec PyProof.Rows L2
section
variable {prog:Program}{w:World}{A:Around}{E:Value->Shared->Prop}{s:Shared}
end
section
variable {fa:Fa}{X:Cx}{a st:PySem.Expr}{ga:GE}{pos p2:Pos}
def revD (m:Bool) (x:D) (M:Mem):Res D:=match x with
  | .tup xs=>.ok (.tup xs.reverse) M
  | x => match rdD M x with
    | some xs=>zbh m xs.reverse M
    | none=>.bad
def gRev (m:Bool) (a:GE):GE:=fun ρ M=>(a ρ M).bind fun x M=>revD m x M
def sPar (i j:Nat) (gs:GA):GS:=fun ρ M=>(gs ρ M).bind fun ds M=>match ds with
  | [a,b]=>.ok (.next ((ρ.set i (some a)).set j (some b))) M
  | _=>.bad
def gInt (a:GE):GE:=fun ρ M=>(a ρ M).bind fun x M=>match x with
  | .int i=>.ok (.int i) M
  | .bl k=>.ok (.int (if k then 1 else 0)) M
  | _=>.bad
end
end LD
namespace LD
open PySem PySem.Spec PyProof.Rows L2
theorem us1 {α:Type}{p:List α->Prop} (h:∀ a,p [a]) (us:List α) (hl:us.length=1):p us:=by
  obtain ⟨a,rfl⟩:=List.length_eq_one_iff.mp hl;exact h a
theorem us2 {α:Type}{p:List α->Prop} (h:∀ a b,p [a,b]):∀ (us:List α) (hl:us.length=2),p us
  | [a,b],_=>h a b
theorem mk_fn {K:PySem.W.Frag}{h:Heap}{mg:Str->Option Value}{f:Addr}{x:Str}{st:PySem.Stmt}{oc:Value}{od an:Option Addr}{osl:Array (Option Value)}{kV doc pm cdv ct:Value} (X:K.In h) (G:h.Ns mainGlobals mg)
    (a:PySem.W.nsIn K mainGlobals x=some (some (.ref f))) (l:K.lookup f=some ⟨oc,od,.func (PySem.W.fnOf x x (zds st) (zbe st) (zai st) .none kV doc pm an cdv ct),osl⟩)
    (c:PySem.W.codeIn K cdv x=true) (k:PySem.W.keepIn K (.ref f)=true):∃ f fd,mg x=some (.ref f) /\ Fun K x x st f fd:=⟨f,_,PySem.W.mg_of X G a,zpf l c k⟩
theorem zbn {K:PySem.W.Frag}{h:Heap}{mg:Str->Option Value}{x:Str}{f:Addr} (X:K.In h) (G:h.Ns mainGlobals mg) (a:PySem.W.nsIn K mainGlobals x=some (some (.ref f))):mg x=some (.ref f):=PySem.W.mg_of X G a
theorem zdj {K:PySem.W.Frag}{h:Heap}{mg:Str->Option Value}{x:Str} (X:K.In h) (G:h.Ns mainGlobals mg) (a:PySem.W.nsIn K mainGlobals x=some none):mg x=none:=PySem.W.mg_none_of X G a
def spLaw (K:PySem.W.Frag):Sp:=fun vs H Q _=>∃ (a:Addr) (ns:List Int),vs=[.ref a] /\ SqL K H a (ns.map V.int) /\ Only H /\ ns.length≤63 /\ ∀ H',Q (.bl true) H'
theorem law_fn {fa:Fa}{P:Program}{w:World}{K:PySem.W.Frag}{mg:Str->Option Value}{base:Heap}{Pg:Nat->Option Df}{n f:Nat}{ad:Addr}{d:Df}{fd:FuncData}{N:List Str}{st:PySem.Stmt}{x qual y:Str} (h:∀ f d,Pg f=some d->zku fa P w K mg base f d)
    (hl:∀ ns:List Int,ns.length≤63->∃ M,za3 Pg (n+1) f [.frz (ns.map D.int)] []=.ok (.bl true) M) (e:Pg f=some d) (F:Fun K x qual st ad fd) (S:zbw N [y] (zai st)) (hs:d.slots=N.length)
    (hbody:∀ (call:Call) (n:Nat) (cdv:Value) (A:Around) (outer:List PySem.Env) (s:Shared) (H:Hp) (E:XK),(∀ f,zee fa P w K mg base n f (call f))->zbd (n+4) (A.deeper (envOfC qual (zai st) s.heap.objs.size ad cdv))->
      DSs fa (zca (CXE P w) P w K mg base N qual (zai st) ad cdv A outer s H E) (zbe st) (d.body call)):zdm P w K mg base (CXE P w) (n+4+1) ad fd [y] (spLaw K):=by
  have eq:∀ ds M,za3 Pg (n+1) f ds M=zeg (za3 Pg n) d ds M:=fun ds M=>by show (match Pg f with | none=>Res.bad | some d=>zeg (za3 Pg n) d ds M)=_;rw [e]
  refine zi2 F S (fun vs H Q E hsp=>?_) fun cdv A outer s H vs Q E hr hsp=>⟨_,hbody (za3 Pg n) n cdv A outer s H E (zl8 h n) hr,?_⟩
  · obtain ⟨a,ns,rfl,_⟩:=hsp;rfl
  · obtain ⟨a,ns,rfl,hS,hO,hn,q⟩:=hsp
    obtain ⟨M',e'⟩:=hl ns hn
    rw [eq] at e'
    have rp:zat fa K ⟨fun _=>none,[]⟩ H [.frz (ns.map D.int)] [.ref a]:=by
      refine ⟨.ref a,[],rfl,⟨a,ns.map V.int,rfl,?_,zat.ints ns⟩,rfl⟩
      rcases hS with (z | ⟨o,z⟩) | z
      · rcases hO a with y | ⟨o,xs,y⟩
        · rw [y] at z;cases z
        · rw [y] at z;cases z
      · exact .inl ⟨o,z⟩
      · exact .inr z
    refine zjy (μ:=⟨fun _=>none,[]⟩) (M:=[]) hs ⟨fun k ds z=>by simp at z,fun _ _=>rfl,(fun _ _ _ z=>nomatch z),(fun _ z=>nomatch z)⟩ rp ?_
    rw [e']
    intro v H' μ' _ _ r
    obtain rfl:v=.bl true:=r
    exact q H'
end LD
namespace LD
open PySem PySem.Spec PyProof.Rows L2
def cutZ (z:Str) (l h:Nat):Str:=⟨(cut z.cps.toList l h).toArray⟩
section
variable {fa:Fa}{X:Cx}{a b:PySem.Expr}{ga gb:GE}{pos p2:Pos}{tg:PySem.Expr}
def gSlcS (hl hh:Bool) (a lo hi:GE):GE:=fun ρ M=>(a ρ M).bind fun x M=>(lo ρ M).bind fun l M=>(hi ρ M).bind fun h M=>if zc5 hl l&&zc5 hh h then (match x with
  | .str z => if z.cps.size ≤ sz then (match sIx z.cps.size 0 l, sIx z.cps.size z.cps.size h with
    | some l,some h=>.ok (.str (cutZ z l h)) M
    | _,_=>.bad) else .bad
  | _=>.bad) else .bad
def gNotT (a b:GE):GE:=fun ρ M=>(a ρ M).bind fun x M=>(b ρ M).bind fun y M=>match x,y with
  | .bl k,.bl true=>.ok (.bl (!k)) M
  | _,_=>.bad
def signs (z:Str):List D:=z.cps.toList.map fun c=>.str ⟨#[c]⟩
def Its (z:Str):It:=⟨fun i _=>i < z.cps.size,fun i H x H'=>H'=H /\ ∃ c,z.cps[i]?=some c /\ x=.str ⟨#[c]⟩,fun i _=>z.cps.size≤i⟩
theorem zk4 {P:Program}{w:World}{K:PySem.W.Frag}{n:String} (hn:["enumerate","zip","dict_itemiterator","dict_reverseitemiterator","odict_iterator","itertools.zip_longest","itertools.pairwise"].contains n=false) (it:Addr) (z:Str) (t:Tok)
    (W:∀ A':Around,A'.handled=none->Walks P w A' it [it] [it] z.cps.size (SignAt z) (fun i h=>h.IsStrIter it n z t i))
    (S:∀ (A:Around) (i:Nat) (s:Shared) (Q:Value->Shared->Prop) (E:Value->Shared->Prop),s.heap.IsStrIter it n z t i->Q (.ref it) s->wpAny (model P w) A (pyIter (.ref it)) Q E s)
    (D:∀ (A:Around) (hh:A.handled=none) (i:Nat) (s:Shared) (Q:Option Value->Shared->Prop) (E:Value->Shared->Prop),s.heap.IsStrIter it n z t i->z.cps.size≤i->(∀ h',(∀ b o,b≠it->s.heap.get? b=some o->h'.get? b=some o)->Q none {s with heap:=h'})->wpAny (model P w) A (pyNext (.ref it)) Q E s) :
    Turn P w K tg (Its z) [it] it (fun i h=>h.IsStrIter it n z t i) where
  mem:=by simp
  obj:=fun i h st b hb=>by
    have e:b=it:=by simpa using hb
    subst e
    obtain ⟨o,e,c,d⟩:=st
    exact ⟨o,e,fun v z=>by rw [d] at z;cases z⟩
  keep:=fun i h h' st k=>let ⟨o,e,r⟩:=st;⟨o,k it (by simp) o e,r⟩
  item:=by
    intro X hP hw hK hc i pins s σ H E I hf st hg
    subst hP hw hK
    obtain ⟨f0,f1,f2,f3,f4,f5⟩:=hf it (by simp)
    refine (W X.A (I.ok.hd hc)).item i s _ _ hg st fun v h' tk hv st' kk=>?_
    obtain ⟨c,u,hc',rfl⟩:=hv
    have I1:Inv X pins σ H {s with heap:=h',toks:=tk}:=I.turned (fun b o hb e=>kk b o (by simpa using hb) e) f0 f1 f3 f4 f5
    obtain ⟨o,e,co,d⟩:=id st'
    exact ⟨_,rfl,zkq (s:={s with heap:=h',toks:=tk}) e co d hn ⟨.str ⟨#[c]⟩,H,I1,⟨u,rfl⟩,⟨rfl,c,hc',rfl⟩,st',fun b hb=>(hf b hb).1⟩⟩
  done:=by
    intro X hP hw hK hc i pins s σ H E I hf st hg
    subst hP hw hK
    obtain ⟨f0,f1,f2,f3,f4,f5⟩:=hf it (by simp)
    exact D X.A (I.ok.hd hc) i s _ _ st hg fun h' eb=>⟨rfl,I.turned (t':=s.toks) (fun b o hb e=>eb b o hb e) f0 f1 f3 f4 f5⟩
  self:=fun A i s Q E st h=>S A i s Q E st h
theorem pi_str {l:PySem.Expr}{tl:TE} (hl:PE X l tl):PI X tg l (fun σ H R=>tl σ H fun x H1=>∃ z,x=.str z /\ R (Its z) H1):=by
  intro pins s σ H R I h
  refine thn (hl pins s σ H _ I h) fun v s1 ⟨x,H1,I1,r1,q1⟩=>?_
  obtain ⟨z,rfl,q⟩:=q1
  obtain ⟨t,rfl⟩:=r1
  have fp:∀ b∈[s1.heap.objs.size],zdu X pins H1 b:=fun b hb=>by
    have e:b=s1.heap.objs.size:=by simpa using hb
    subst e
    exact I1.fpOk (Nat.le_refl _) (I1.hok.fresh (Nat.le_refl _))
  cases ha:z.cps.all (· < 128)
  · refine wpAny_pyIter_wide ha ?_
    exact ⟨s1.heap.objs.size,[s1.heap.objs.size],_,_,H1,rfl,I1.kept (t':=s1.toks) fun b o e=>Heap.get?_push_of_some _ e,zk4 (n:="str_iterator") rfl _ z t (fun A' h=>Walks.strWide h _ z t) (fun A i s Q E st h=>wpAny_pyIter_striter_wide st h) (fun A hh i s Q E st hi k=>wpAny_pyNext_wide_end hh st (by simp;omega) k),⟨_,Heap.get?_push_size _ rfl,rfl,rfl⟩,fp,q⟩
  · refine wpAny_pyIter_ascii ha ?_
    exact ⟨s1.heap.objs.size,[s1.heap.objs.size],_,_,H1,rfl,I1.kept (t':=s1.toks) fun b o e=>Heap.get?_push_of_some _ e,zk4 (n:="str_ascii_iterator") rfl _ z t (fun A' h=>Walks.strAscii h _ z t) (fun A i s Q E st h=>wpAny_pyIter_striter_ascii st h) (fun A hh i s Q E st hi k=>wpAny_pyNext_ascii_end hh st (by simp;omega) k),⟨_,Heap.get?_push_size _ rfl,rfl,rfl⟩,fp,q⟩
def zh8 (ga:GE):Env->Mem->Res Walk:=fun ρ M=>(ga ρ M).bind fun x M=>match x with
  | .str z=>.ok (fun _=>some (signs z)) M
  | _=>.bad
theorem zp4 {μ0:Mu}{H0:Hp} (z:Str):zc9 fa X.K μ0 H0 (fun _=>some (signs z)) (Its z):=fun μ H M ds x hM e=>by
  cases e
  refine ⟨fun i d hd=>?_,fun i hi=>(show z.cps.size≤i by simpa [signs] using hi)⟩
  have hd:(signs z)[i]?=some d:=hd
  unfold signs at hd
  rw [List.getElem?_map] at hd
  cases e:z.cps.toList[i]? with
  | none=>rw [e] at hd;cases hd
  | some c =>
    rw [e] at hd
    have e':D.str ⟨#[c]⟩=d:=Option.some.inj hd
    subst e'
    have e2:z.cps[i]?=some c:=by simpa using e
    refine ⟨(Array.getElem?_eq_some_iff.mp e2).1,fun y H' ⟨e1,c',e3,e4⟩=>?_⟩
    rw [e2] at e3
    cases e3
    subst e1 e4
    exact ⟨.refl,hM,rfl⟩
theorem ztv (ha:DE fa X a ga):DI fa X tg a (zh8 ga):=fun pins s σ H R I ⟨μ,ρ,M,hE,hM,h⟩=>by
  obtain ⟨x,M1,e,q⟩:=za5 h
  refine pi_str ha pins s σ H R I ⟨μ,ρ,M,hE,hM,?_⟩
  rw [e]
  intro v H1 μ1 x1 m1 r1
  cases x with
  | str z =>
    obtain rfl:v=.str z:=r1
    exact ⟨z,rfl,q _ H1 μ1 x1 m1 (zp4 z)⟩
  | _=>exact q.elim
end
end LD
namespace LD
open PySem PySem.Spec PySem.Calls PyProof.Rows PySem.W
section
variable {prog:Program}{w:World}{A:Around}{E:Value->Shared->Prop}{s:Shared}{K:Frag}{x C:Addr}{ox:Obj}{od:Option Obj}{name:Str}
def zfm (K:Frag) (C:Addr):Bool:=findIn K (.ref C) "__getattribute__"==some (some (.builtin "BaseException.__getattribute__"))&&findIn K (.ref C) "__getattr__"==some none&&mroIn K C (.type "BaseException")==some true&&mroIn K C (.type "object")==some true &&
  findIn K (.ref C) "__class__"==some (some (.builtin "object.__class__"))&&specialIn K (.builtin "object.__class__") "__get__"==some (some (.builtin "getset_descriptor.__get__"))&&takesIn K (.builtin "object.__class__")==some true
def fndK (prog:Program) (w:World) (A:Around) (x C:Addr) (Q:Value->Shared->Prop) (E:Value->Shared->Prop) (s:Shared):Builtin.ObjectAttr.Found->Prop
  | .value v=>wpAny (model prog w) A (handedOut v) Q E s
  | .bind g a=>wpAny (model prog w) A.in1 (call g [a,.ref x,.ref C]) (fun v s'=>wpAny (model prog w) A (handedOut v) Q E s') (fun _ _=>False) s
  | .missing=>False
theorem zm0 {r:Builtin.ObjectAttr.Found}{tk:Tok}{fill expr:Bool}{Q:Value->Shared->Prop} (X:K.In s.heap) (I:InstAt s.heap x ox C od) (hg:zfm K C=true) (hf:findObj K C od name=some r)
    (h:fndK prog w A x C Q E s r) :
    wpAny (model prog w) A (getAttrBy (.ref x) (.str name tk) fill expr) Q E s:=by
  unfold zfm at hg
  simp only [Bool.and_eq_true,beq_iff_eq] at hg
  obtain ⟨⟨⟨⟨⟨⟨hga,hgn⟩,hmB⟩,hmO⟩,_⟩,_⟩,_⟩:=hg
  obtain ⟨hh,g,d,t,os⟩:=s
  have L0:=I.type (M:=model prog w)
  have L1:=looks_findIn (M:=model prog w) X hga
  have L2:=looks_findIn (M:=model prog w) X hgn
  have L3:=looks_find (M:=model prog w) X I hf
  have L4:=looks_mroIn (M:=model prog w) X hmB
  have hx2:(Value.builtin "BaseException.__getattribute__"==Value.builtin "object.__getattribute__")=false:=by decide +kernel
  have hk:builtinKind "BaseException.__getattribute__"=some .slot:=by decide +kernel
  have hsplit:splitId "BaseException.__getattribute__"=some ("BaseException","__getattribute__"):=by decide +kernel
  unfold getAttrBy
  refine wpAny_holding (wpAny_bind (L0.at (wpAny_bind (L1.at ?_))))
  show wpAny _ _ (if (true&&Value.builtin "BaseException.__getattribute__"==Value.builtin "object.__getattribute__")=true then _ else _) _ _ _
  rw [hx2,if_neg (by decide)]
  unfold getAttrByItsOwn
  refine wpAny_bind (show wpAny _ _ (typeLookup (.ref C) "__getattr__") _ _ _ from L2.at (wpAny_bind (wpAny_attempt (wpAny_holding ?_))))
  unfold callGetattribute
  rw [if_neg (by cases expr<;>decide)]
  unfold boundAndCalled
  refine wpAny_bind (wpAny_of_eq (PySem.F.excAttr_ValueError.ga.bind (.ref x)) ?_)
  refine wpAny_call (codeAny_call_builtin PySem.F.excAttr_ValueError.ga.plain F.entry_bexc_ga ?_)
  simp only [checkBuiltinCall,hk,hsplit]
  refine wpAny_bind (show wpAny _ _ (isInstance (.ref x) (.type "BaseException")) _ _ _ from wpAny_bind (L0.at (L4.at ?_)))
  have ha:=F.args_bexc_ga (.ref x) (.str name tk)
  repeat (any_goals (first | assumption | wp_step))
  refine wpAny_loadPart_at I.at_ (wpAny_pure ?_)
  rw [I.cls]
  refine wpAny_bind (L3.at ?_)
  cases r with
  | value v=>exact wpAny_pure h
  | bind g a =>
    show wpAny _ _ (holding [a] (call g [a,.ref x,.ref C]) >>= ret) _ _ _
    exact wpAny_bind (wpAny_holding (wpAny_mono h (fun v s' z=>wpAny_pure z) fun _ _ z=>z.elim))
  | missing=>exact h.elim
theorem zpg {Q:Option Value->Shared->Prop} (X:K.In s.heap) (I:InstAt s.heap x ox C od) (hg:zfm K C=true) (h:Q (some (.ref C)) {s with toks:=s.toks+1}):wpAny (model prog w) A (getAttr? (.ref x) "__class__") Q E s:=by
  have hg':=hg
  unfold zfm at hg'
  simp only [Bool.and_eq_true,beq_iff_eq] at hg'
  obtain ⟨⟨⟨⟨⟨⟨_,_⟩,_⟩,hm⟩,ha⟩,hn⟩,htk⟩:=hg'
  have hf:findObj K C od "__class__"=some (.bind (.builtin "getset_descriptor.__get__") (.builtin "object.__class__")):=by
    obtain ⟨cd,hc,_⟩:=Option.bind_eq_some_iff.mp hm
    unfold findObj
    rw [hc,Option.bind_some,ha,Option.bind_some]
    simp [hn,htk]
  unfold getAttr? getAttrBy?
  refine wpAny_bind (wpAny_mkText (wpAny_bind (wpAny_attempt (zm0 (s:={s with toks:=s.toks+1}) (r:=.bind (.builtin "getset_descriptor.__get__") (.builtin "object.__class__")) X I hg hf ?_))))
  exact wpAny_call (class_get (s:={s with toks:=s.toks+1}) (ox:=ox) (od:=od) X I hm (handed_on rfl (wpAny_pure h)))
theorem ztp {c:Value}{Q:Value->Shared->Prop} (X:K.In s.heap) (I:InstAt s.heap x ox C od) (hg:zfm K C=true) (hty:∀ (M:Model) h',K.In h'->Looks M h' (typeOf c) (.type "type")) (his:∀ (M:Model) h',K.In h'->Looks M h' (isType c) true)
    (hne:(Value.ref C==c)=false) (hsub:∀ (M:Model) h',K.In h'->Looks M h' (isSubtype (.ref C) c) false) (h:Q (.bool false) {s with toks:=s.toks+1}):wpAny (model prog w) A (call (.builtin "isinstance") [.ref x,c]) Q E s:=by
  refine call_isinstance_of ?_ (by intro q;cases q)
  have hisD:Looks (model prog w) s.heap (isType (.ref C)) true:=by
    have hg':=hg
    unfold zfm at hg'
    simp only [Bool.and_eq_true,beq_iff_eq] at hg'
    obtain ⟨cd,hc,_⟩:=Option.bind_eq_some_iff.mp hg'.1.1.1.2
    unfold clsIn at hc
    split at hc
    · rename_i c' d' cd' sl' ho
      intro A' Q' E' s' k q
      unfold isType loadHead
      exact wpAny_bind (wpAny_loadPart (k _ _ (X _ _ ho)) (wpAny_pure q))
    · cases hc
  have hty:=hty (model prog w) s.heap X
  have his:=his (model prog w) s.heap X
  have hsub:=hsub (model prog w) s.heap X
  obtain ⟨h0,g,d,tt,os⟩:=s
  have L0:=I.type (M:=model prog w)
  have LI:Looks (model prog w) h0 (isInstance (.ref x) c) false:=L0.andThen hsub
  unfold Builtin.«isinstance.nested»
  refine wpAny_bind (L0.at ?_)
  rw [if_neg (fun q=>by rw [hne] at q;exact Bool.noConfusion q)]
  refine wpAny_bind (hty.at ?_)
  rw [if_pos (by decide)]
  k_delta "plainIsInstance"
  refine wpAny_bind (wpAny_bind (his.at ?_))
  simp only [Bool.not_true,Bool.false_eq_true,if_false]
  refine wpAny_bind (LI.at ?_)
  simp only [Bool.false_eq_true,if_false]
  refine wpAny_bind (zpg X I hg ?_)
  refine wpAny_bind (hisD.at ?_)
  simp only [Bool.not_true,Bool.false_eq_true,if_false]
  refine wpAny_bind (wpAny_rule ?_)
  refine hsub.at ?_
  exact wpAny_pure h
theorem zq2 {D:Addr}{Q:Value->Shared->Prop} (X:K.In s.heap) (I:InstAt s.heap x ox C od) (hg:zfm K C=true) (e:kin_not K C D=true) (h:Q (.bool false) {s with toks:=s.toks+1}):wpAny (model prog w) A (call (.builtin "isinstance") [.ref x,.ref D]) Q E s:=by
  unfold kin_not at e
  rw [Bool.and_eq_true,Bool.and_eq_true,Bool.and_eq_true] at e
  obtain ⟨⟨⟨e0,e1⟩,e2⟩,e3⟩:=e
  refine ztp X I hg (fun _ h' X'=>looks_typeIn X' (beq_iff_eq.mp e2)) (fun _ h' X'=>?_) ?_ (fun _ h' X'=>looks_subIn X' (beq_iff_eq.mp e3)) h
  · unfold clsIn at e1
    split at e1
    · rename_i c' d' cd' sl' ho
      intro A' Q' E' s' k q
      unfold isType loadHead
      exact wpAny_bind (wpAny_loadPart (k _ _ (X' _ _ ho)) (wpAny_pure q))
    · cases e1
  · exact Bool.eq_false_iff.mpr fun q=>of_decide_eq_true e0 (Value.ref.inj (beq_iff_eq.mp q))
theorem ztq {T:String}{Q:Value->Shared->Prop} (X:K.In s.heap) (I:InstAt s.heap x ox C od) (hty:typeOf (.type T)=pure (.type "type")) (hm:mroIn K C (.type T)=some true) (h:Q (.bool true) s):wpAny (model prog w) A (call (.builtin "isinstance") [.ref x,.type T]) Q E s:=by
  refine call_isinstance_of ?_ (by intro q;cases q)
  have L1:=looks_mroIn (M:=model prog w) X hm
  obtain ⟨h0,g,d,tt,os⟩:=s
  have L0:=I.type (M:=model prog w)
  have LI:Looks (model prog w) h0 (isInstance (.ref x) (.type T)) true:=L0.andThen L1
  unfold Builtin.«isinstance.nested»
  refine wpAny_bind (L0.at ?_)
  rw [if_neg (by intro q;cases beq_iff_eq.mp q)]
  refine wpAny_bind (wpAny_of_eq hty ?_)
  rw [if_pos (by decide)]
  k_delta "plainIsInstance"
  refine wpAny_bind (wpAny_bind (wpAny_of_eq (a:=true) rfl ?_))
  simp only [Bool.not_true,Bool.false_eq_true,if_false]
  refine wpAny_bind (LI.at ?_)
  simp only [if_true]
  exact wpAny_pure (wpAny_pure h)
end
end LD
namespace LD
open PySem PySem.Spec PyProof.Rows L2
def zpe (f:Nat) (c:Call) (s:GA):GE:=fun ρ M=>match s ρ M with
  | .ok ds M=>c f ds M
  | _=>.bad
def xFin (k:D->Mem->Res Fl) (ρ:Env):Res D->Res Fl
  | .ok d M=>k d M
  | .err x M=>.ok (.exc x ρ) M
  | .bad=>.bad
def sExX (a:GE):GS:=fun ρ M=>xFin (fun _ M=>.ok (.next ρ) M) ρ (a ρ M)
def sAsgX (t:Tgt) (a:GE):GS:=fun ρ M=>xFin (fun x M=>(ofO M (zcj t x ρ)).bind fun ρ1 M=>.ok (.next ρ1) M) ρ (a ρ M)
def sRetX (a:GE):GS:=fun ρ M=>xFin (fun x M=>.ok (.ret x) M) ρ (a ρ M)
def zlg (c:Nat) (s:GA):GS:=fun ρ M=>match s ρ M with
  | .ok ds M=>if ds.length≤sz then .ok (.exc (.exc c none) ρ) M else .bad
  | _=>.bad
def zbo (o:Option Nat) (a:GE):GE:=fun ρ M=>(a ρ M).bind fun x M=>match x with
  | .exc c _=>.ok (.bl (match o with | some k=>k==c | none=>true)) M
  | _=>.bad
def xEnd (i:Nat):Fl->Mem->Res Fl
  | .next ρ,M=>.ok (.next (ρ.set i none)) M
  | .ret d,M=>.ok (.ret d) M
  | .exc _ _,_=>.bad
def xTry (i:Nat) (h:GS):Fl->Mem->Res Fl
  | .exc x ρ,M=>(h (ρ.set i (some x)) M).bind (xEnd i)
  | fl,M=>.ok fl M
def sTry (b:GS) (i:Nat) (h:GS):GS:=fun ρ M=>(b ρ M).bind (xTry i h)
section
variable {fa:Fa}{X:Cx}{a b:PySem.Expr}{ga gb:GE}{ta:GT}{pos p:Pos}{es:List PySem.Expr}{gs:GA}{n:Nat}
end
abbrev bmV:List Value:=[.type "ValueError",.type "Exception",.type "BaseException",.type "object"]
theorem zq4 {K:PySem.W.Frag}{h:Heap}{C:Addr}{bmB:List Value}{newId:String} (X:K.In h) (q:PySem.W.excIn K C bmB newId=true) :
    ∃ bm N nm q bs hdct sn sub ab col dd k0 k1 k2 k3 k5 mN,h.get? C=some (excClassObj nm q C N bs bm hdct sn sub ab col dd k0 k1 k2 k3 k5 newId) /\ h.Ns N mN /\ mN "__init__"=none /\ OwnTail h bmB bm:=by
  unfold PySem.W.excIn at q
  split at q
  · rename_i dd cd sl ho
    split at q
    · rename_i C' bm k0 k1 k2 k3 n k5 hm hs
      simp only [Bool.and_eq_true,beq_iff_eq,Bool.not_eq_true'] at q
      obtain ⟨⟨⟨⟨⟨rfl,rfl⟩,hdel⟩,ht⟩,hok⟩,hni⟩:=q
      obtain ⟨nm,bs,mro,ns,qn,hd,sn,sub,ab,col,del⟩:=cd
      dsimp only at hm hdel hok hni
      subst hm hdel
      have hsl:sl=#[k0,k1,k2,k3,some (.builtin n),k5]:=by
        obtain ⟨l⟩:=sl
        simp only at hs
        rw [hs]
      subst hsl
      exact ⟨bm,ns,nm,qn,bs,hd,sn,sub,ab,col,dd,k0,k1,k2,k3,k5,_,X _ _ ho,.of_isNs (PySem.W.isNs_of_in X hok),PySem.W.nsMap_none_of_in X hok hni,PySem.W.tail_of_in X ht⟩
    · cases q
  · cases q
theorem zjq {P:Program}{w:World}{H:Hp}{h:Heap}{a:Addr}{o:HO} (x:zb8 P w H h a o):∃ ob,h.get? a=some ob:=by
  cases o with
  | lst xs=>obtain ⟨_,_,_,_,e⟩:=x;exact ⟨_,e⟩
  | tup xs=>obtain ⟨_,_,_,ob,e,_⟩:=x;exact ⟨_,e⟩
  | dK kvs=>obtain ⟨_,_,_,_,o,_,_,e,_⟩:=x;exact ⟨_,e⟩
  | dT kvs=>obtain ⟨_,_,_,_,o,_,_,e,_⟩:=x;exact ⟨_,e⟩
  | set S n=>obtain ⟨o,_,_,_,e,_⟩:=x;exact ⟨_,e⟩
  | ins C dx fs=>obtain ⟨_,_,_,e,_⟩:=x;exact ⟨_,e⟩
  | own y=>exact x
  | xd fs=>obtain ⟨_,⟨_,_,_,e,_⟩,_⟩:=x;exact ⟨_,e⟩
  | rng lo hi=>obtain ⟨_,_,_,e⟩:=x;exact ⟨_,e⟩
  | frz ob u=>obtain ⟨e,_⟩:=x;exact ⟨_,e⟩
  | tbl ps=>exact ⟨_,x⟩
  | met f y=>exact ⟨_,x⟩
  | ext φ=>obtain ⟨_,e,_⟩:=x;exact e
theorem zlx {X:Cx}{pins:List (Addr×Obj)}{σ:L2.St}{H:Hp}{s:Shared} (I:Inv X pins σ H s) (hex:X.ex=[]) {e:Addr} (hn:s.heap.get? e=none):NewX X e /\ H e=none:=by
  refine ⟨⟨?_,fun p hp z=>?_⟩,?_⟩
  · cases q:X.s₀.heap.get? e with
    | none=>rfl
    | some o =>
      obtain ⟨o',e'⟩:=I.base.there e o q (by rw [hex];simp)
      rw [hn] at e';cases e'
  · have:=(I.pin p (List.mem_append_left _ hp)).1
    rw [z,hn] at this;cases this
  · cases q:H e with
    | none=>rfl
    | some u =>
      obtain ⟨ob,z⟩:=zjq (I.hok e u q)
      rw [hn] at z;cases z
section
variable {fa:Fa}{X:Cx}{a b:PySem.Expr}{ga gb:GE}{ta:GT}{pos p:Pos}{es:List PySem.Expr}{gs:GA}{n:Nat}
end
end LD
namespace LD
open PySem PySem.Spec PyProof.Rows L2
structure XCs (fa:Fa) (K:PySem.W.Frag):Prop where
  g:∀ c C,fa (cid c)=some C->zfm K C=true /\ PySem.W.mroIn K C (.type "ValueError")=some true /\ PySem.W.isIn K (.ref C) C=true
  d:∀ c C D,fa (cid c)=some C->fa 999=some D->PySem.W.isIn K (.ref C) D=true /\ PySem.W.mroIn K C (.ref D)=some true /\ PySem.W.mroIn K D (.type "BaseException")=some true /\ PySem.W.typeIn K (.ref D)=some (.type "type")
  n:∀ c C c' C',fa (cid c)=some C->fa (cid c')=some C'->c'≠c->PySem.W.kin_not K C C'=true
section
variable {fa:Fa}{X:Cx}{pins:List (Addr×Obj)}{σ:L2.St}{H:Hp}{s:Shared}{μ:Mu}
theorem ziy (I:Inv X pins σ H s) {c:Nat}{p:Option Int}{v:V} (r:Rep fa X.K μ H (.exc c p) v):∃ a C ox od,v=.ref a /\ fa (cid c)=some C /\ PySem.W.InstAt s.heap a ox C od:=by
  obtain ⟨a,C,dx,rfl,hf,hH,hn⟩:=r
  obtain ⟨⟨o,vs,h1,h2,h3,h4,h5⟩,_,_⟩:=I.hok a _ hH
  have hc:PySem.W.notCls o=true:=by unfold PySem.W.notCls;rw [h4]
  cases p with
  | none =>
    have hn:dx=none:=hn
    exact ⟨a,C,o,none,rfl,hf,h1,h2,hc,by rw [h3,hn];trivial⟩
  | some i =>
    obtain ⟨d,rfl,hd⟩:=hn
    obtain ⟨mA,⟨od,es,ep,e,_⟩,_⟩:=I.hok d _ hd
    exact ⟨a,C,o,some od,rfl,hf,h1,h2,hc,by rw [h3];exact e⟩
def zhq (fa:Fa) (K:PySem.W.Frag) (o:Option Nat) (w:V) (xs:List V) (H:Hp) (Q:VK):Prop:=∃ μ c p v,xs=[v,w] /\ Rep fa K μ H (.exc c p) v /\ Q (.bl (match o with | some k=>k==c | none=>true)) H
theorem ztl (hc:XCs fa X.K) {k:Nat}{D:Addr} (hD:fa (cid k)=some D):zcn X (.builtin "isinstance") (zhq fa X.K (some k) (.ref D)):=by
  intro pins s σ H xs us Q I r h
  obtain ⟨μ,c,p,v,rfl,hv,q⟩:=h
  obtain ⟨u,w,rfl,r1,r2⟩:=vals2 r
  obtain rfl:w=Value.ref D:=r2
  obtain ⟨a,C,ox,od,rfl,hf,IA⟩:=ziy I hv
  obtain rfl:u=Value.ref a:=r1
  dsimp only at q
  by_cases hb:k=c
  · subst hb
    rw [hD] at hf;cases hf
    rw [beq_self_eq_true] at q
    exact PySem.W.isi_call I.kIn (fun M=>IA.type) (hc.g k D hD).2.2 (by intro z;cases z) ⟨.bl true,H,I,rfl,q⟩
  · rw [beq_eq_false_iff_ne.mpr hb] at q
    exact zq2 I.kIn IA (hc.g c C hf).1 (hc.n c C k D hf hD hb) ⟨.bl false,H,I.tok _,rfl,q⟩
theorem ztn (hc:XCs fa X.K) {D:Addr} (hD:fa 999=some D):zcn X (.builtin "isinstance") (zhq fa X.K none (.ref D)):=by
  intro pins s σ H xs us Q I r h
  obtain ⟨μ,c,p,v,rfl,hv,q⟩:=h
  obtain ⟨u,w,rfl,r1,r2⟩:=vals2 r
  obtain rfl:w=Value.ref D:=r2
  obtain ⟨a,C,ox,od,rfl,hf,IA⟩:=ziy I hv
  obtain rfl:u=Value.ref a:=r1
  exact PySem.W.isi_call I.kIn (fun M=>IA.type) (hc.d c C D hf hD).1 (by intro z;cases z) ⟨.bl true,H,I,rfl,q⟩
theorem ztm (hc:XCs fa X.K):zcn X (.builtin "isinstance") (zhq fa X.K none (.ty "ValueError")):=by
  intro pins s σ H xs us Q I r h
  obtain ⟨μ,c,p,v,rfl,hv,q⟩:=h
  obtain ⟨u,w,rfl,r1,r2⟩:=vals2 r
  obtain rfl:w=Value.type "ValueError":=r2
  obtain ⟨a,C,ox,od,rfl,hf,IA⟩:=ziy I hv
  obtain rfl:u=Value.ref a:=r1
  exact ztq I.kIn IA (by kernel_rfl) (hc.g c C hf).2.1 ⟨.bl true,H,I,rfl,q⟩
end
section
variable {fa:Fa}{X:Cx}{a:PySem.Expr}{ga:GE}{pos p1 p2:Pos}{x:Str}
theorem ziz {o:Option Nat}{w:V}{σ:L2.St}{H:Hp}{Q:VK} (h:tE fa X.K (zbo o ga) σ H Q):tE fa X.K ga σ H fun v H1=>zhq fa X.K o w [v,w] H1 Q:=by
  obtain ⟨μ,ρ,M,hE,hM,h⟩:=h
  exact t1 hE hM h fun x M1 v H1 μ1 x1 hE1 hM1 r1 h1=>by
    cases x with
    | exc c p=>exact ⟨μ1,c,p,v,rfl,r1,za6 (v:=.bl _) hM1 (zbb.ext h1 x1) rfl⟩
    | _=>exact h1.elim
theorem zsp (k:Nat) (hc:XCs fa X.K) (hx:∃ D,X.mg x=some (.ref D) /\ fa (cid k)=some D) (ha:DE fa X a ga) (hg:Gl X "isinstance") (hm:X.mg "isinstance"=none) (hgt:Gl X x) (hdb:(x==("__debug__":Str))=false)
    (he:starEach [a,.Name x p1] X.env=(false,eval a X.env)::starEach [.Name x p1] X.env):DE fa X (.Call (.Name "isinstance" p2) [a,.Name x p1] [] pos) (zbo (some k) ga):=by
  obtain ⟨D,h1,h2⟩:=hx
  exact zcb (zet (ztl (fa:=fa) hc h2) hg hm (by decide +kernel) (zbu ha (zbu (zmw hgt h1 (v:=.ref D) rfl hdb) zc6 (by rfl)) he) (by decide) (by decide) he (by rfl)) fun σ H Q h=>ziz h
theorem zsr (hc:XCs fa X.K) (hx:∃ D,X.mg x=some (.ref D) /\ fa 999=some D) (ha:DE fa X a ga) (hg:Gl X "isinstance") (hm:X.mg "isinstance"=none) (hgt:Gl X x) (hdb:(x==("__debug__":Str))=false)
    (he:starEach [a,.Name x p1] X.env=(false,eval a X.env)::starEach [.Name x p1] X.env):DE fa X (.Call (.Name "isinstance" p2) [a,.Name x p1] [] pos) (zbo none ga):=by
  obtain ⟨D,h1,h2⟩:=hx
  exact zcb (zet (ztn (fa:=fa) hc h2) hg hm (by decide +kernel) (zbu ha (zbu (zmw hgt h1 (v:=.ref D) rfl hdb) zc6 (by rfl)) he) (by decide) (by decide) he (by rfl)) fun σ H Q h=>ziz h
theorem zsq (hc:XCs fa X.K) (ha:DE fa X a ga) (hg:Gl X "isinstance") (hm:X.mg "isinstance"=none) (hgt:Gl X "ValueError") (hmt:X.mg "ValueError"=none)
    (he:starEach [a,.Name "ValueError" p1] X.env=(false,eval a X.env)::starEach [.Name "ValueError" p1] X.env):DE fa X (.Call (.Name "isinstance" p2) [a,.Name "ValueError" p1] [] pos) (zbo none ga):=
  zcb (zet (ztm (fa:=fa) hc) hg hm (by decide +kernel) (zbu ha (zbu (zmx hgt hmt (by decide +kernel) (v:=.ty "ValueError") rfl) zc6 (by rfl)) he) (by decide) (by decide) he (by rfl)) fun σ H Q h=>ziz h
end
section
variable {X:Cx}{pins:List (Addr×Obj)}{σ:L2.St}{H:Hp}{s:Shared}
end
section
variable {fa:Fa}{X:Cx}{pos np hp:Pos}{x nm:Str}{i:Nat}{body suite:List PySem.Stmt}{b0:PySem.Stmt}{gB gH:GS}
end
def xcsB (K:PySem.W.Frag) (cl:List (Nat×Addr)) (D:Addr):Bool:=PySem.W.mroIn K D (.type "BaseException")==some true&&PySem.W.typeIn K (.ref D)==some (.type "type") &&
  cl.all fun q=>zfm K q.2&&PySem.W.mroIn K q.2 (.type "ValueError")==some true&&PySem.W.isIn K (.ref q.2) q.2&&PySem.W.isIn K (.ref q.2) D&&PySem.W.mroIn K q.2 (.ref D)==some true&&cl.all fun r=>r.1==q.1||PySem.W.kin_not K q.2 r.2
def faX (l cl:List (Nat×Addr)) (D:Addr):Fa:=fun i=>if i < 999 then l.lookup i else if i=999 then some D else cl.lookup (i - 1000)
theorem lookup_mem:∀ {l:List (Nat×Addr)}{c:Nat}{C:Addr},l.lookup c=some C->(c,C)∈l
  | [],_,_,h=>by cases h
  | (a, b) :: r, c, C, h => by
    rw [List.lookup_cons] at h
    split at h
    · next e=>cases h;rw [eq_of_beq e];exact List.mem_cons_self
    · exact List.mem_cons_of_mem _ (lookup_mem h)
theorem zfk {l cl:List (Nat×Addr)}{D:Addr}{c:Nat}{C:Addr} (h:faX l cl D (cid c)=some C):(c,C)∈cl:=by
  unfold faX cid at h
  rw [if_neg (by omega),if_neg (by omega),Nat.add_sub_cancel_left] at h
  exact lookup_mem h
theorem xcs_of {K:PySem.W.Frag}{l cl:List (Nat×Addr)}{D:Addr} (h:xcsB K cl D=true):XCs (faX l cl D) K:=by
  unfold xcsB at h
  simp only [Bool.and_eq_true,beq_iff_eq,List.all_eq_true,Bool.or_eq_true] at h
  obtain ⟨⟨h1,h2⟩,h3⟩:=h
  refine ⟨fun c C e=>?_,fun c C D' e e'=>?_,fun c C c' C' e e' n=>?_⟩
  · obtain ⟨⟨⟨⟨⟨a1,a2⟩,a3⟩,a4⟩,a5⟩,a6⟩:=h3 _ (zfk e)
    exact ⟨a1,a2,a3⟩
  · obtain ⟨⟨⟨⟨⟨a1,a2⟩,a3⟩,a4⟩,a5⟩,a6⟩:=h3 _ (zfk e)
    have e':some D=some D':=e'
    cases e'
    exact ⟨a4,a5,h1,h2⟩
  · obtain ⟨⟨⟨⟨⟨a1,a2⟩,a3⟩,a4⟩,a5⟩,a6⟩:=h3 _ (zfk e)
    exact (a6 _ (zfk e')).elim (fun z=>absurd z n) id
end LD
namespace LD
open PySem PySem.Spec PyProof.Rows L2 PySem.SeqAt
def zhk (M:Mem) (x:D):Option (List Bool):=(rdD M x).bind boolsOf
def znw (a:GE):GE:=fun ρ M=>(a ρ M).bind fun x M=>match zhk M x with
  | some bs=>.ok (.int (bs.count true)) M
  | none=>.bad
def znu (a:GE):GE:=fun ρ M=>(a ρ M).bind fun x M=>match zhk M x with
  | some bs=>if true∈bs then .ok (.int (bs.idxOf true)) M else .bad
  | none=>.bad
def isT:Value->Bool
  | .bool b=>b
  | _=>false
section
variable {fa:Fa}{X:Cx}
theorem eqT {A:Around}{s:Shared}{us:List Value}{bs:List Bool} (h:us=bs.map Value.bool):∀ y,y∈us.toArray->EqAt A s y (.bool true) (isT y):=fun y hy=>by
  have hy:y∈us:=by simpa using hy
  rw [h] at hy
  obtain ⟨b,_,rfl⟩:=List.mem_map.mp hy
  have e:=EqAt.bool_bool (A:=A) (s:=s) b true
  have q:(b==true)=isT (.bool b):=by cases b<;>rfl
  rw [<- q];exact e
theorem cntT {bs:List Bool}:(bs.map Value.bool).countP isT=bs.count true:=by
  induction bs with
  | nil=>rfl
  | cons b r ih=>cases b<;>simp [List.countP_cons,isT,ih]
theorem zjx:∀ {us:List Value}{bs:List Bool},PyProof.Rows.LSm.BoolsAre us bs->us=bs.map Value.bool:=by
  intro us bs h
  induction h with
  | nil=>rfl
  | cons _ _ ih=>simp [ih]
def rCnt (fa:Fa) (K:PySem.W.Frag) (x:V) (vs:List V) (H:Hp) (Q:VK):Prop:=∃ μ ds bs p ws,x=.ref p /\ vs=[.bl true] /\ SqL K H p ws /\ zat fa K μ H ds ws /\ boolsOf ds=some bs /\ Q (.int (bs.count true)) H
def rIdxT (fa:Fa) (K:PySem.W.Frag) (x:V) (vs:List V) (H:Hp) (Q:VK):Prop:=∃ μ ds bs p ws,x=.ref p /\ vs=[.bl true] /\ SqL K H p ws /\ zat fa K μ H ds ws /\ boolsOf ds=some bs /\ true∈bs /\ Q (.int (bs.idxOf true)) H
theorem mt_cnt:MtR X "list.count" (rCnt fa X.K):=by
  intro pins s σ H x vs v us Q I rx rv h
  obtain ⟨μ,ds,bs,p,ws,rfl,rfl,hq,rl,eb,q⟩:=h
  cases rx
  obtain ⟨u,rfl,ru⟩:=vals1 rv
  obtain rfl:u=Value.bool true:=ru
  obtain ⟨its,rv,⟨o,n,e1,e2,e3,e4⟩,hz⟩:=I.list hq
  have hb:=zjx (zjp eb rl rv)
  obtain ⟨oc,od,oda,osl⟩:=o
  obtain rfl:oc=.type "list":=e2
  obtain rfl:oda=.seq its.toArray n:=e4
  refine call_meets PySem.F.slot_list_count ⟨_,e1,rfl⟩ PySem.F.entry_list_count (PySem.F.args_list_count_2 _ _) (PySem.SeqAt.list_countAt p its.toArray n od osl (.bool true) isT) ⟨e1,eqT hb,?_⟩
  have hcnt:its.toArray.toList.countP isT=bs.count true:=by rw [hb,List.toList_toArray];exact cntT
  exact ⟨.int (bs.count true),H,I.tok _,⟨s.toks,by rw [hcnt]⟩,q⟩
theorem mt_idx:MtR X "list.index" (rIdxT fa X.K):=by
  intro pins s σ H x vs v us Q I rx rv h
  obtain ⟨μ,ds,bs,p,ws,rfl,rfl,hq,rl,eb,hm,q⟩:=h
  cases rx
  obtain ⟨u,rfl,ru⟩:=vals1 rv
  obtain rfl:u=Value.bool true:=ru
  obtain ⟨its,rv,⟨o,n,e1,e2,e3,e4⟩,hz⟩:=I.list hq
  have hb:=zjx (zjp eb rl rv)
  obtain ⟨oc,od,oda,osl⟩:=o
  obtain rfl:oc=.type "list":=e2
  obtain rfl:oda=.seq its.toArray n:=e4
  have hl:bs.idxOf true < bs.length:=List.idxOf_lt_length_of_mem hm
  have hl2:its.length=bs.length:=by rw [hb];simp
  have hz2:its.length≤sizeLine:=by rw [<- rv.length];exact hz
  have hs:((bs.idxOf true:Nat):Int) < 2 ^ 63 - 1:=by
    have:sizeLine < 2 ^ 62:=by decide
    omega
  have at':∀ m (hm:m < its.toArray.size),isT its.toArray[m]=bs[m]'(by simp at hm;omega):=fun m hm=>by subst hb;simp [isT]
  refine call_meets PySem.F.slot_list_index ⟨_,e1,rfl⟩ PySem.F.entry_list_index (PySem.F.args_list_index_2 _ _) (PySem.SeqAt.list_indexAt p its.toArray n od osl (.bool true) isT (bs.idxOf true) (by simp;omega) hs (by rw [at'];simp) fun m hm h=>?_) ⟨e1,eqT hb,?_⟩
  · rw [at']
    have:=List.not_of_lt_findIdx (p:=(·==true)) (xs:=bs) (i:=m) h
    simpa using this
  · exact ⟨.int (bs.idxOf true),H,I.tok _,⟨_,rfl⟩,q⟩
variable {a:PySem.Expr}{ga:GE}{apos cpos kp:Pos}{j:Nat}
theorem r_cntT (ha:DE fa X a ga) (hbase:attributeBase a "count" X.env (eval a X.env)=eval a X.env) (hline:(apos.endLine==cpos.line)=true):DE fa X (.Call (.Attribute a "count" apos) [.Constant (.bool true) j kp] [] cpos) (znw ga):=
  zcb (zne PySem.F.plainAttrs_list PySem.F.slot_list_count PySem.F.type_list_count (mt_cnt (fa:=fa)) ha (zbu znf zc6 (by rfl)) hbase (by rfl) hline (by rfl) (by rfl)) fun σ H Q ⟨μ,ρ,M,hE,hM,h⟩=>t1 hE hM h fun x M1 v H1 μ1 x1 hE1 hM1 r1 h1=>by
    cases e3:zhk M1 x with
    | none=>rw [e3] at h1;exact h1.elim
    | some bs=>
        rw [e3] at h1
        obtain ⟨ds,e,e2⟩:=Option.bind_eq_some_iff.mp e3
        obtain ⟨p,ws,rfl,hq,rl⟩:=zbl hM1 r1 e
        exact ⟨.inl ⟨rfl,ws,hq⟩,μ1,ds,bs,p,ws,rfl,rfl,hq,rl,e2,za6 (v:=.int _) hM1 (zbb.ext h1 x1) rfl⟩
theorem r_idxT (ha:DE fa X a ga) (hbase:attributeBase a "index" X.env (eval a X.env)=eval a X.env) (hline:(apos.endLine==cpos.line)=true):DE fa X (.Call (.Attribute a "index" apos) [.Constant (.bool true) j kp] [] cpos) (znu ga):=
  zcb (zne PySem.F.plainAttrs_list PySem.F.slot_list_index PySem.F.type_list_index (mt_idx (fa:=fa)) ha (zbu znf zc6 (by rfl)) hbase (by rfl) hline (by rfl) (by rfl)) fun σ H Q ⟨μ,ρ,M,hE,hM,h⟩=>t1 hE hM h fun x M1 v H1 μ1 x1 hE1 hM1 r1 h1=>by
    cases e3:zhk M1 x with
    | none=>rw [e3] at h1;exact h1.elim
    | some bs=>
        rw [e3] at h1
        obtain ⟨ds,e,e2⟩:=Option.bind_eq_some_iff.mp e3
        have h1:okE (if true∈bs then .ok (.int (bs.idxOf true)) M1 else .bad) (zbb fa X.K μ H Q):=h1
        split at h1
        · next hm=>
          obtain ⟨p,ws,rfl,hq,rl⟩:=zbl hM1 r1 e
          exact ⟨.inl ⟨rfl,ws,hq⟩,μ1,ds,bs,p,ws,rfl,rfl,hq,rl,e2,hm,za6 (v:=.int _) hM1 (zbb.ext h1 x1) rfl⟩
        · exact h1.elim
end
end LD
namespace LD
open PySem PySem.Spec PySem.Calls PyProof.Rows
section
variable {prog:Program}{w:World}{A:Around}{E:Value->Shared->Prop}{h:Heap}{g:Array GenState}{d:Drawn}{t:Nat}{os:OsState}
variable {nm q:Str}{C N:Addr}{bs bm:List Value}{hdct:Bool}{sn:List Str}{sub:List Value}{ab:Bool}{col:Option Bool}{dd:Option Addr}{k0 k1 k2 k3 k5:Option Value}
theorem zq3 {e:Addr}{oe:Obj}{vs:Array Value}{u:Value}{Q:Value->Shared->Prop} (hC:h.get? C=some (excClassObj nm q C N bs bm hdct sn sub ab col dd k0 k1 k2 k3 k5 "ValueError.__new__")) (T:OwnTail h bmV bm)
    (he:h.get? e=some oe) (hcls:oe.cls=.ref C) (hd:oe.data=.fields vs) {t0:Addr} (h0:vs[0]?=some (.ref t0))
    (hq:∀ h' tp,(∀ b o,b≠e->h.get? b=some o->h'.get? b=some o)->h'.get? e=some (oe.mapFields (·.setIfInBounds 0 (.ref tp)))->Q .none ⟨h',g,d,t,os⟩) :
    wpAny (model prog w) A (call (.builtin "ValueError.__init__") [.ref e,u]) Q E ⟨h,g,d,t,os⟩:=by
  refine wpAny_call (codeAny_call_builtin PySem.F.excBase_ValueError.init.plain PySem.F.excBase_ValueError.initEntry (wpAny_check_init_subT PySem.F.excBase_ValueError T hC he hcls ?_))
  wp_walk
  have he2:(h.push {cls:=.type "tuple",data:=.seq #[u]}).get? e=some oe:=Heap.get?_push_of_some _ he
  rw [hd]
  refine wpAny_pure ?_
  rw [h0]
  refine wpAny_pure ?_
  refine wpAny_bind (wpAny_setField he2 hd (Array.getElem?_eq_some_iff.mp h0).1 ?_)
  wp_walk
  refine hq _ h.objs.size (fun b o hb e'=>?_) ?_
  · rw [Heap.get?_update_other _ _ (Ne.symm hb)];exact Heap.get?_push_of_some _ e'
  · exact Heap.get?_update_self _ he2 (Obj.isFreed_of_fields (Obj.data_mapFields hd _))
end
def zfr:List Value->Bool
  | .ref _::r=>zfr r
  | l=>l==bmV
theorem zlj (self:Value):∀ {l:List Value},zfr l=true->refuseLoop self "__setattr__" l=pure ()
  | [],e=>absurd e (by decide)
  | a :: r, e => by
    cases a with
    | ref c=>rw [refuseLoop_ref];exact zlj self e
    | _ =>
      have q:=eq_of_beq (show (_::r==bmV)=true from e)
      rw [q];exact PySem.F.store_ValueError.passes self
def zkn (K:PySem.W.Frag) (C:Addr):Bool:=(PySem.W.clsIn K C).any (fun cd=>zfr cd.mro)&&PySem.W.mroIn K C (.type "object")==some true
theorem osa_x {prog:Program}{w:World}{A:Around}{R:Result->Shared->Prop}{s:Shared}{K:PySem.W.Frag}{x C:Addr}{ox:Obj}{od:Option Obj}{name:Str}{tk:Tok}{v:Value} (X:K.In s.heap) (J:PySem.W.InstAt s.heap x ox C od) (hp:zkn K C=true) (ht:PySem.W.takerIn K C name=some none)
    (h:∀ b,wpAny (model prog w) A.in1 (Builtin.ObjectAttr.storeInOwnDict (.ref x) (.ref C) (.str name tk) name v b) (fun fin s'=>match fin with | .done f=>R (.ok f) s' | .again c'=>c'.quiet=true /\ codeAny (model prog w) A c' R s') (fun e s'=>R (.error e) s') s) :
    codeAny (model prog w) A (.call (.builtin "object.__setattr__") ⟨[.ref x,.str name tk,v],[]⟩) R s:=by
  unfold zkn at hp
  rw [Bool.and_eq_true,beq_iff_eq] at hp
  obtain ⟨cd,hc,ho⟩:=PySem.W.any_some hp.1
  have G:=PySem.F.store_ValueError
  have ho:zfr cd.mro=true:=ho
  have e0:PySem.W.Looks (model prog w) s.heap (isInstance (.ref x) (.type "object")) true:=J.type.andThen (PySem.W.looks_mroIn X hp.2)
  obtain ⟨at',ha,hr⟩:=Option.bind_eq_some_iff.mp ht
  have e1:PySem.W.Looks (model prog w) s.heap (mroOf (.ref C)) cd.mro:=(PySem.W.looks_clsIn X hc).andThen .now
  have e2:PySem.W.Looks (model prog w) s.heap (Builtin.ObjectAttr.storeTaker? at') none:=by
    cases at' with
    | none=>exact .now
    | some a =>
      obtain ⟨b,hb,hn⟩:=Option.map_eq_some_iff.mp hr
      cases b with
      | true=>cases hn
      | false=>exact (PySem.W.looks_takesIn X hb).andThen .now
  refine codeAny_call_builtin PySem.F.store_object.slot.plain G.entry (@PySem.W.check_slot (model prog w) _ _ s "object.__setattr__" "object" "__setattr__" (.ref x) [.str name tk,v] [] _ G.kind G.split e0 (G.args (.ref x) (.str name tk) v) ?_)
  rw [PySem.W.osa_eq]
  refine wpAny_bind ?_
  rw [refuse_eq]
  refine wpAny_bind (J.type.here (wpAny_bind (e1.here ?_)))
  rw [zlj _ ho]
  exact wpAny_pure (wpAny_bind (J.type.here (wpAny_bind ((PySem.W.looks_findIn X ha).here (wpAny_bind (e2.here (h _)))))))
theorem zto {prog:Program}{w:World}{A:Around}{E:Value->Shared->Prop}{s:Shared}{K:PySem.W.Frag}{x C:Addr}{ox:Obj}{name:Str}{v:Value}{vs:Array Value}{Q:Unit->Shared->Prop} (X:K.In s.heap) (J:PySem.W.InstAt s.heap x ox C none)
    (hs:PySem.W.findIn K (.ref C) "__setattr__"=some (some (.builtin "object.__setattr__"))) (hp:zkn K C=true) (ht:PySem.W.takerIn K C name=some none) (hh:PySem.W.hasDictIn K C=true) (hd:ox.data=.fields vs)
    (h:∀ h' d,s.heap.objs.size≤d->h'.Ns1 d (fun y=>if y=name then some v else none)->h'.get? x=some {ox with dict:=some d}->(∀ b o,b≠x->s.heap.get? b=some o->h'.get? b=some o)->Q () {s with heap:=h',toks:=s.toks+2}) :
    wpAny (model prog w) A (setAttr (.ref x) name v) Q E s:=by
  refine PySem.W.set_plain X J hs (osa_x (s:={s with toks:=s.toks+1}) X J hp ht fun b=>?_)
  obtain ⟨cd,hc,hd'⟩:=PySem.W.any_some hh
  have hx:=J.at_
  obtain ⟨oc,odi,oda,osl⟩:=ox
  obtain rfl:oc=.ref C:=J.cls
  obtain rfl:oda=.fields vs:=hd
  have hdi:odi=none:=by
    have:=J.dict
    cases odi with
    | none=>rfl
    | some d=>exact this.elim
  subst hdi
  refine wpAny_bind (wpAny_pure (wpAny_bind (wpAny_bind (wpAny_loadPart hx (wpAny_bind (PySem.W.Looks.here (s:={s with toks:=s.toks+1}) (PySem.W.looks_clsIn X hc) ?_))))))
  rw [hd']
  show wpAny _ _ (alloc {cls:=.type "dict",data:=.dict #[]} >>= fun d=>update x (fun o=>{o with dict:=some d}) >>= fun _=>(pure (some d):Sem (Option Addr))) _ _ _
  refine wpAny_bind (wpAny_alloc ?_)
  have hx2:(s.heap.push {cls:=.type "dict",data:=.dict #[]}).get? x=some ⟨.ref C,none,.fields vs,osl⟩:=Heap.get?_push_of_some _ hx
  refine wpAny_bind (wpAny_update hx2 (wpAny_pure ?_))
  have hdx:s.heap.objs.size≠x:=Nat.ne_of_gt (Heap.lt_size hx)
  have e1:(s.heap.push {cls:=.type "dict",data:=.dict #[]}).get? s.heap.objs.size=some {cls:=.type "dict",data:=.dict #[]}:=Heap.get?_push_size s.heap rfl
  have e2:((s.heap.push {cls:=.type "dict",data:=.dict #[]}).update x (fun o=>{o with dict:=some s.heap.objs.size})).get? s.heap.objs.size=some {cls:=.type "dict",data:=.dict #[]}:=(Heap.get?_update_other _ _ (Ne.symm hdx)).trans e1
  have e3:((s.heap.push {cls:=.type "dict",data:=.dict #[]}).update x (fun o=>{o with dict:=some s.heap.objs.size})).Ns s.heap.objs.size (fun _=>none):=⟨_,#[],_,e2,rfl,(fun e he=>absurd he (by simp)),fun _=>rfl⟩
  have e4:=Heap.get?_update_self (fun o=>{o with dict:=some s.heap.objs.size}) hx2 rfl
  refine wpAny_bind (wpAny_pure (wpAny_bind ?_))
  refine wpAny_nsSet1 (Heap.Ns1.of_empty e3) fun h' hn2 hs2=>?_
  obtain ⟨oD,esD,epD,hoD,hdD,hcD⟩:=hn2.count (PySem.Within.cons name v PySem.Within.nil)
  refine wpAny_bind (wpAny_lookBehind hoD (by rw [hdD];exact pastItsLine_dict (Nat.le_trans hcD (by show 1≤sizeLine+1;omega))) ?_)
  refine wpAny_pure (h _ s.heap.objs.size (Nat.le_refl _) hn2 ((hs2.2 _ (Ne.symm hdx)).trans e4) fun b o hb e=>?_)
  rw [hs2.2 b (Nat.ne_of_lt (Heap.lt_size e)),Heap.get?_update_other _ _ (Ne.symm hb)]
  exact Heap.get?_push_of_some _ e
end LD
namespace LD
open PySem PySem.Spec PyProof.Rows L2
def fit (z:Str) (i:Int) (y:Str):Prop:=i.natAbs.log2 < 1920 /\ (z++(toString i:Str)).length≤sizeLine /\ (z++(toString i:Str)++y).length≤sizeLine
section
variable {X:Cx}{a:PySem.Expr}{ta:TE}{pos p1 p2 p3:Pos}{j j2:Nat}{z y:Str}
def tF3 (z y:Str) (ta:TE):TE:=fun σ H Q=>z.length≤sizeLine /\ ta σ H fun v H1=>∃ i,v=.int i /\ fit z i y /\ Q (.str (z++(toString i:Str)++y)) H1
theorem zps (z:Str):Str.empty++z=z:=by
  cases z with
  | mk c=>show Str.mk (#[]++c)=_;simp
theorem zn3 (z:Str):z++Str.empty=z:=by
  cases z with
  | mk c=>show Str.mk (c++#[])=_;simp
theorem pe_f2 (ha:PE X a ta):PE X (.JoinedStr [.Constant (.str z) j p1,.FormattedValue a (-1) none p2] pos) (tF3 z Str.empty ta):=by
  intro pins s σ H Q I ⟨hz,h⟩
  refine JoinedStr_many (joinParts_cons (Calls.Constant_str ?_))
  show (Str.empty++z).length≤sizeLine /\ _
  rw [zps]
  refine ⟨hz,joinParts_cons (FormattedValue_plain (thn (ha pins _ σ H _ (I.tok _) h) fun u s1 ⟨v,H1,I1,r1,i,ev,⟨f1,f2,f3⟩,q⟩=>?_))⟩
  subst ev
  obtain ⟨t,rfl⟩:=r1
  refine formatField_int_small f1 ⟨f2,joinParts_nil ?_ f2⟩
  have e:z++(toString i:Str)++Str.empty=z++(toString i:Str):=by
    exact zn3 _
  rw [e] at q
  exact ⟨.str _,H1,I1.tok _,⟨_,rfl⟩,q⟩
end
def zc0 (C:Addr) (dx:Option Addr) (a:Addr) (h:Heap):Prop:=∃ o vs t0,h.get? a=some o /\ o.cls=.ref C /\ o.dict=dx /\ o.data=.fields vs /\ vs[0]?=some (.ref t0) /\ vs[1]?=some .none
def zez (K:PySem.W.Frag) (C:Addr) (fI:Addr):Bool:=match K.lookup C with
  | some ⟨.type "type", _, .cls cd, sl⟩ => (match cd.mro, sl.toList with
    | .ref C'::bm,[_,_,_,_,some (.builtin n),_]=>C'==C&&n=="ValueError.__new__"&&!cd.hasDel&&PySem.W.tailIn K bmV bm&&PySem.W.nsOkIn K cd.ns&&PySem.W.nsIn K cd.ns "__init__"==some (some (.ref fI))
    | _,_=>false)
  | _=>false
theorem znj {K:PySem.W.Frag}{h:Heap}{N:Addr}{x:Str}{v:Value}{mg:Str->Option Value} (X:K.In h) (G:h.Ns N mg) (e:PySem.W.nsIn K N x=some (some v)):mg x=some v:=by
  obtain ⟨o,es,ep,ho,hd,_,hf⟩:=G
  unfold PySem.W.nsIn at e
  split at e
  · rename_i c d es' n' sl q
    have:=X _ _ q
    rw [ho] at this
    cases this
    cases hd
    split at e
    · rename_i en he
      cases e
      rw [<- hf]
      unfold nsFind findBy
      rw [<- Array.find?_toList,he]
      rfl
    · split at e<;>cases e
  · cases e
theorem zjt {K:PySem.W.Frag}{h:Heap}{C fI:Addr} (X:K.In h) (q:zez K C fI=true) :
    ∃ bm N nm q bs hdct sn sub ab col dd k0 k1 k2 k3 k5 mN,h.get? C=some (excClassObj nm q C N bs bm hdct sn sub ab col dd k0 k1 k2 k3 k5 "ValueError.__new__") /\ h.Ns N mN /\ mN "__init__"=some (.ref fI) /\ OwnTail h bmV bm:=by
  unfold zez at q
  split at q
  · rename_i dd cd sl ho
    split at q
    · rename_i C' bm k0 k1 k2 k3 n k5 hm hs
      simp only [Bool.and_eq_true,beq_iff_eq,Bool.not_eq_true'] at q
      obtain ⟨⟨⟨⟨⟨rfl,rfl⟩,hdel⟩,ht⟩,hok⟩,hni⟩:=q
      obtain ⟨nm,bs,mro,ns,qn,hd,sn,sub,ab,col,del⟩:=cd
      dsimp only at hm hdel hok hni
      subst hm hdel
      have hsl:sl=#[k0,k1,k2,k3,some (.builtin "ValueError.__new__"),k5]:=by
        obtain ⟨l⟩:=sl
        simp only at hs
        rw [hs]
      subst hsl
      exact ⟨bm,ns,nm,qn,bs,hd,sn,sub,ab,col,dd,k0,k1,k2,k3,k5,_,X _ _ ho,.of_isNs (PySem.W.isNs_of_in X hok),znj X (.of_isNs (PySem.W.isNs_of_in X hok)) hni,PySem.W.tail_of_in X ht⟩
    · cases q
  · cases q
theorem zp6 {H:Hp}{a:Addr}{o:HO} (h:H a=some o):upd H a o=H:=by
  funext b
  unfold upd
  split
  · next e=>rw [e,h]
  · rfl
section
variable {X:Cx}{a b:PySem.Expr}{ta tb:TE}{apos cpos p1 pos:Pos}{x:Str}{D:Addr}
def tIni (K:PySem.W.Frag) (ta tb:TE):TE:=fun σ H Q=>ta σ H fun v H1=>tb σ H1 fun u H2=>∃ e C fI,v=.ref e /\ H2 e=some (.ext (zc0 C none e)) /\ zez K C fI=true /\ Q .non H2
theorem zij {P:Program}{w:World}{H:Hp}{h:Heap}{C e:Addr}{dx:Option Addr} (x:zc0 C dx e h):zb8 P w H h e (.ext (zc0 C dx e)):=by
  refine ⟨x,let ⟨o,_,_,e,_⟩:=x;⟨o,e⟩,fun g1 g2 ⟨o,vs,t0,k1,k2⟩ kk=>⟨o,vs,t0,kk o k1,k2⟩⟩
theorem pe_ini {pl:Sem Bool} (hD:X.mg x=some (.ref D)) (hg:Gl X x) (h1:PySem.W.readsIn X.K D (.type "type")=true) (h2:PySem.W.findCls X.K (.ref D) (.type "type") "__init__"=some (.val (.builtin "ValueError.__init__")))
    (h3:PySem.W.specialIn X.K (.ref D) "__getattribute__"=some (some (.builtin "type.__getattribute__"))) (ha:PE X a ta) (hb:PE X b tb) (he:notStar a=true) (he2:notStar b=true) (hdb:(x==("__debug__":Str))=false)
    (ht:eval (.Call (.Attribute (.Name x p1) "__init__" apos) [a,b] [] cpos) X.env=(do
      let ov <- eval (.Name x p1) X.env
      standAt apos.atName
      let (f,first) <- holding [ov] (getMethod ov "__init__" pl)
      callWith cpos f first (backTo cpos (starEach [a,b] X.env)) (backToKw cpos (keywordEach [] X.env)))) :
    PE X (.Call (.Attribute (.Name x p1) "__init__" apos) [a,b] [] cpos) (tIni X.K ta tb):=by
  intro pins s σ H Q I h
  refine PySem.W.methodCall_KW (pl:=pl) (zfh I hg hD ?_ hdb) ht
  refine PySem.W.method_cls I.kIn h3 (PySem.W.cls_value I.kIn h1 h2 rfl ?_)
  refine Calls.callWith_builtin (zd0 (es:=[a,b]) (by simp [he,he2])) ?_
  have ar:=thn ((zbu ha (zbu hb zc6 (zb2 he2)) (zb2 he)) cpos pins {s with toks:=s.toks+1} σ H (fun vs H2=>match vs with | [v,u]=>∃ e C fI,v=.ref e /\ H2 e=some (.ext (zc0 C none e)) /\ zez X.K C fI=true /\ Q .non H2 | _=>False) (I.tok _) h) (Q':=fun us s2=>wpAny (model X.prog X.w) X.A (call (.builtin "ValueError.__init__") ([]++us) []) (EP X pins σ Q) X.xe s2) fun us s1 ⟨vs,H1,I1,r,hq⟩=>by
    match vs,r,hq with
    | [],_,hq=>exact hq.elim
    | [_],_,hq=>exact hq.elim
    | _::_::_::_,_,hq=>exact hq.elim
    | [v, u], r, ⟨e, C, fI, ev, hH, hx, q⟩ =>
      subst ev
      obtain ⟨w1,w2,rfl,r1,r2⟩:=vals2 r
      obtain rfl:w1=Value.ref e:=r1
      obtain ⟨⟨o,vs,t0,k1,k2,k3,k4,k5,k6⟩,_,_⟩:=I1.hok e _ hH
      obtain ⟨bm,N,nm,qq,bs,hdct,sn,sub,ab,col,dd,c0,c1,c2,c3,c5,mN,hC,hN,hni,T⟩:=zjt I1.kIn hx
      obtain ⟨hp,gg,dr,tk,os⟩:=s1
      refine zq3 hC T k1 k2 k4 k5 fun h' tp kk ke=>?_
      have nw:zc0 C none e h':=⟨_,_,tp,ke,by rw [Obj.cls_mapFields];exact k2,by rw [zgd];exact k3,Obj.data_mapFields k4 _,by simp [(Array.getElem?_eq_some_iff.mp k5).1],by rw [Array.getElem?_setIfInBounds_ne (by decide)];exact k6⟩
      have I2:=I1.write (x:=e) (e:=e) (o:=.ext (zc0 C none e)) (h':=h') (t':=tk) (by rw [hH];exact True.intro) (.inl rfl) (fun b u hb z=>kk b u hb z) ⟨_,ke⟩ (zij nw)
      rw [zp6 hH] at I2
      exact ⟨.non,H1,I2,rfl,q⟩
  rw [zb2 he] at ar ⊢
  exact PySem.Calls.evalArgs_plain ar
end
def setIn (K:PySem.W.Frag) (C:Addr) (fld:Str):Bool:=PySem.W.findIn K (.ref C) "__setattr__"==some (some (.builtin "object.__setattr__"))&&zkn K C&&PySem.W.takerIn K C fld==some none&&PySem.W.hasDictIn K C
section
variable {X:Cx}{o value:PySem.Expr}{to tv:TE}{p' pos:Pos}{fld:Str}
def tSetx (K:PySem.W.Frag) (tv to:TE) (fld:Str):TS:=fun D σ H=>tv σ H fun y H1=>to σ H1 fun x H2=>∃ e C i,x=.ref e /\ y=.int i /\ H2 e=some (.ext (zc0 C none e)) /\ setIn K C fld=true /\ ∀ d,H2 d=none->d≠e->D.nx σ (upd (upd H2 d (.xd [(fld,.int i)])) e (.ext (zc0 C (some d) e)))
theorem zsy (ho:PE X o to) (hv:PE X value tv) (hs:swapsWith value (some (.Attribute o fld p')) pos.line X.env=pure false):PS X (.Assign [.Attribute o fld p'] value pos) (tSetx X.K tv to fld):=by
  intro pins s σ H D I h
  refine plainObj_wpAny_Assign_Attribute (thn (hv pins s σ H _ I h) fun u s1 ⟨y,H1,I1,ry,q⟩=>thn (ho pins s1 σ H1 _ I1 q) fun ov s2 ⟨x,H2,I2,rx,e,C,i,ex,ey,hH,hset,q2⟩=>?_) hs
  subst ex ey
  obtain rfl:ov=Value.ref e:=rx
  obtain ⟨t,rfl⟩:=ry
  simp only [setIn,Bool.and_eq_true,beq_iff_eq] at hset
  obtain ⟨⟨⟨g1,g2⟩,g3⟩,g4⟩:=hset
  obtain ⟨⟨ob,vs,t0,k1,k2,k3,k4,k5,k6⟩,_,_⟩:=I2.hok e _ hH
  have IA:PySem.W.InstAt s2.heap e ob C none:=⟨k1,k2,by unfold PySem.W.notCls;rw [k4],by rw [k3];trivial⟩
  refine zto I2.kIn IA g1 g2 g3 g4 k4 fun h' d hd hns hx' kk=>?_
  have hd0:H2 d=none:=I2.hok.fresh hd
  have hde:d≠e:=fun z=>by rw [z,hH] at hd0;cases hd0
  have lt:∀ b o,s2.heap.get? b=some o->b≠d:=fun b o q z=>absurd (Heap.lt_size q) (by rw [z];exact Nat.not_lt.mpr hd)
  have ne:∀ b,H2 b=none->b≠e:=fun b q z=>by rw [z,hH] at q;cases q
  have up:∀ b,b≠d->b≠e->upd (upd H2 d (.xd [(fld,.int i)])) e (.ext (zc0 C (some d) e)) b=H2 b:=fun b z1 z2=>by rw [zar z2,zar z1]
  have nd:∀ b u,H2 b=some u->b≠d:=fun b u q=>zay q hd0
  refine ⟨σ,_,I2.un (h':=h') (t':=s2.toks+2) (H':=upd (upd H2 d (.xd [(fld,.int i)])) e (.ext (zc0 C (some d) e))) ⟨fun b o q n _ _=>kk b o (ne b n) q,fun b o q n _ _=>⟨o.slots,kk b o (ne b n) q⟩,fun b o q n _=>?_,fun b o q _=>?_,fun b xs q=>?_,fun b o u q=>?_,fun b ps q=>⟨#[],?_⟩⟩ fun b u q=>?_,q2 d hd0 hde⟩
  · rw [up b (lt b o q) (ne b n)];exact n
  · by_cases z:b=e
    · exact ⟨_,by rw [z];exact hx'⟩
    · exact ⟨o,kk b o z q⟩
  · rw [up b (nd b _ q) (fun z=>by rw [z,hH] at q;cases q)];exact q
  · rw [up b (nd b _ q) (fun z=>by rw [z,hH] at q;cases q)];exact q
  · rw [up b (nd b _ q) (fun z=>by rw [z,hH] at q;cases q)];simpa using q
  · by_cases z:b=e
    · subst z
      rw [zbg] at q;cases q
      exact zij ⟨_,vs,t0,hx',k2,rfl,k4,k5,k6⟩
    · by_cases z2:b=d
      · subst z2
        rw [zar hde,zbg] at q;cases q
        refine ⟨_,hns,fun f=>?_⟩
        by_cases hf:f=fld
        · subst hf
          simp only [List.lookup_cons,beq_self_eq_true,if_true]
          exact ⟨t,rfl⟩
        · rw [if_neg hf]
          have:([(fld,V.int i)]:List (Str×V)).lookup f=none:=by simp [List.lookup_cons,beq_eq_false_iff_ne.mpr hf]
          rw [this];trivial
      · rw [up b z2 z] at q
        refine (I2.hok b u q).stay (fun c v hc w=>kk c v ?_ w) (fun c w=>?_) fun c xs w=>?_
        · rcases hc with hc | hc
          · rw [hc];exact z
          · intro y;rw [y,hH] at hc;cases hc
        · rw [up c (nd c _ w) (fun y=>by rw [y,hH] at w;cases w)];exact w
        · rw [up c (nd c _ w) (fun y=>by rw [y,hH] at w;cases w)];exact w
end
end LD
namespace LD
open PySem PySem.Spec PyProof.Rows
section
variable {prog:Program}{w:World}{A:Around}{E:Value->Shared->Prop}{h:Heap}{g:Array GenState}{d:Drawn}{t:Nat}{os:OsState}
variable {nm q:Str}{C N:Addr}{bs bm:List Value}{hdct:Bool}{sn:List Str}{sub:List Value}{ab:Bool}{col:Option Bool}{dd:Option Addr}{k0 k1 k2 k3 k5:Option Value}
theorem zkb {mN:Str->Option Value}{rest:List Value}{fI:Addr}{oI:Obj}{Q:Fin->Shared->Prop}
    (hC:h.get? C=some (excClassObj nm q C N bs bm hdct sn sub ab col dd k0 k1 k2 k3 k5 "ValueError.__new__")) (T:OwnTail h bmV bm) (hn:h.Ns N mN) (hi:mN "__init__"=some (.ref fI)) (hfI:h.get? fI=some oI) (hfc:oI.cls=.type "function")
    (hq:∀ h' e,Heap.MadeExcOf h h' e (.ref C) rest->wpAny (model prog w) A (call (.ref fI) (.ref e::rest)) (fun r s'=>r=.none /\ Q (.done (.ret (.ref e))) s') E ⟨h',g,d,t,os⟩) (hrest:rest.length≤sizeLine) :
    wpAny (model prog w) A (Builtin.«type.__call__» ⟨.ref C::rest,[]⟩) Q E ⟨h,g,d,t,os⟩:=by
  have F:=PySem.F.excBase_ValueError
  repeat (first | with_reducible refine wpAny_loadPart_at hC ?_ | with_reducible refine wpAny_madeBy_exc hC ?_ | wp_step)
  refine codeAny_call_builtin_code (Code.quiet_builtin _ F.quiet) (wpAny_check_new_subT F T hC ?_)
  refine codeAny_exc_new_subT F T hC ?_ hrest
  show wpAny _ _ _ _ _ _
  have kp:∀ b o,h.get? b=some o->((h.push {cls:=.type "tuple",data:=.seq rest.toArray}).push {cls:=.ref C,data:=.fields #[.ref h.objs.size,.none,.none,.none,.bool false,.none]}).get? b=some o:=fun b o hb=>Heap.get?_push_of_some _ (Heap.get?_push_of_some _ hb)
  have hC₁:=kp _ _ hC
  have hfI₁:=kp _ _ hfI
  have hn₁:=hn.keeps kp
  have T₁:=T.keeps kp
  have hget:((h.push {cls:=.type "tuple",data:=.seq rest.toArray}).push {cls:=.ref C,data:=.fields #[.ref h.objs.size,.none,.none,.none,.bool false,.none]}).get? (h.objs.size+1)=some {cls:=.ref C,data:=.fields #[.ref h.objs.size,.none,.none,.none,.bool false,.none]}:=by heap_get
  have hcC:(Value.ref C::bm).contains (.ref C)=true:=by simp
  unfold isInstance
  repeat (first | with_reducible refine wpAny_loadPart_at hget ?_ | (with_reducible refine wpAny_isSubtype_exc hC₁ ?_;rw [hcC]) | wp_step)
  show wpAny _ _ (typeLookup (.ref C) _) _ _ _
  refine wpAny_typeLookup_tail hC₁ hn₁ T₁ F.mroIs F.init.lookup ?_
  rw [hi]
  refine wpAny_holding (wpAny_bind ?_)
  unfold bindSpecial
  refine wpAny_bind (wpAny_typeOf (T:="function") ⟨_,hfI₁,hfc⟩ ?_)
  rw [if_pos (by decide)]
  refine wpAny_pure (wpAny_bind (wpAny_mono (hq _ (h.objs.size+1) ⟨kp,Heap.get?_none_of_le (Nat.le_succ _),h.objs.size,hget,Heap.get?_none_of_le (Nat.le_refl _),?_⟩) (fun r s' hr=>?_) fun _ _ x=>x))
  · exact Heap.get?_push_of_some _ (Heap.get?_push_at rfl rfl)
  · obtain ⟨rfl,hQ⟩:=hr
    wp_walk
    exact hQ
theorem zpp {mN:Str->Option Value}{rest:List Value}{fI:Addr}{oI:Obj}{Q:Value->Shared->Prop}
    (hC:h.get? C=some (excClassObj nm q C N bs bm hdct sn sub ab col dd k0 k1 k2 k3 k5 "ValueError.__new__")) (T:OwnTail h bmV bm) (hn:h.Ns N mN) (hi:mN "__init__"=some (.ref fI)) (hfI:h.get? fI=some oI) (hfc:oI.cls=.type "function")
    (hq:∀ h' e,Heap.MadeExcOf h h' e (.ref C) rest->wpAny (model prog w) (A.under (.builtin "type.__call__" ⟨.ref C::rest,[]⟩)) (call (.ref fI) (.ref e::rest)) (fun r s'=>r=.none /\ Q (.ref e) s') E ⟨h',g,d,t,os⟩) (hrest:rest.length≤sizeLine) :
    wpAny (model prog w) A (call (.ref C) rest) Q E ⟨h,g,d,t,os⟩:=by
  have f1:=tc_lookup
  have f2:=tc_bind (.ref C)
  have hT:(⟨h,g,d,t,os⟩:Shared).TypeIs (.ref C) "type":=⟨_,hC,rfl⟩
  refine wpAny_call (codeAny_of_tree ?_)
  show wpAny _ _ (callAny (.ref C) _) _ _ _
  repeat (any_goals (first | assumption | with_reducible refine wpAny_loadPart_at hC ?_ | wp_step))
  refine ⟨rfl,?_⟩
  refine codeAny_call_builtin_at (Code.quiet_builtin _ (by decide +kernel)) entry_typeCall (wpAny_check_type_call_sub hC (zkb hC T hn hi hfI hfc (fun h' e hm=>?_) hrest))
  exact hq h' e hm
end
end LD
namespace LD
open PySem PySem.Spec PyProof.Rows L2
def IniEv (x m:Str) (a b:PySem.Expr) (p1 apos cpos:Pos) (env:PySem.Env):Prop:=∃ pl,eval (.Call (.Attribute (.Name x p1) m apos) [a,b] [] cpos) env=(do
      let ov <- eval (.Name x p1) env
      standAt apos.atName
      let (f,first) <- holding [ov] (getMethod ov m pl)
      callWith cpos f first (backTo cpos (starEach [a,b] env)) (backToKw cpos (keywordEach [] env)))
def spI (C:Addr) (fld:Str):Sp:=fun vs H Q _=>∃ e i,vs=[.ref e,.int i] /\ H e=some (.ext (zc0 C none e)) /\ i.natAbs < 2 ^ 64 /\ ∀ d,H d=none->d≠e->Q .non (upd (upd H d (.xd [(fld,.int i)])) e (.ext (zc0 C (some d) e)))
theorem len_app (a b:Str):(a++b).length=a.length+b.length:=by
  show (Str.append a b).length=_
  unfold Str.append Str.length
  simp
theorem fit_of {z y:Str}{i:Int} (hz:z.length≤1000) (hy:y.length≤1000) (hi:i.natAbs < 2 ^ 64):fit z i y:=by
  have h1:i.natAbs.log2 < 1920:=by
    by_cases h0:i.natAbs=0
    · rw [h0];decide
    · exact Nat.lt_of_lt_of_le ((Nat.log2_lt h0).mpr hi) (by omega)
  have h2:((toString i:Str)).length≤1921:=PyProof.Rows.int_text_len_1921 h1
  have hs:sizeLine=16777216:=zc1.symm
  refine ⟨h1,?_,?_⟩
  · rw [len_app];omega
  · rw [len_app,len_app];omega
section
variable {P:Program}{w:World}{K:PySem.W.Frag}{mg:Str->Option Value}{base:Heap}{qual y fld z:Str}{st:PySem.Stmt}{f C D fI:Addr}{fd:FuncData}{p1 p2 p3 p4 p5 p6 p7 p8 p9 p10 p11 p12 p13:Pos}{j:Nat}
theorem ini_ok (F:Fun K "__init__" qual st f fd) (S:zbw ["self",y] ["self",y] (zai st))
    (hb:zbe st=[.Expr (.Call (.Attribute (.Name "DeedError" p1) "__init__" p2) [.Name "self" p3,.JoinedStr [.Constant (.str z) j p4,.FormattedValue (.Name y p5) (-1) none p6] p7] [] p8) p9,.Assign [.Attribute (.Name "self" p10) fld p11] (.Name y p12) p13])
    (hev:∀ L cd,IniEv "DeedError" "__init__" (.Name "self" p3) (.JoinedStr [.Constant (.str z) j p4,.FormattedValue (.Name y p5) (-1) none p6] p7) p1 p2 p8 (envOfC qual (zai st) L f cd))
    (hz:z.length≤1000) (hyd:(y==("__debug__":Str))=false) (hyc:(y==("__classdict__":Str))=false) (v0:(zai st).names.lookup ("self":Str)=some .local) (v1:(zai st).names.lookup y=some .local)
    (hg:∀ L cd,(envOfC qual (zai st) L f cd).kindOf "DeedError"=some .globalImplicit) (hD:mg "DeedError"=some (.ref D)) (h1:PySem.W.readsIn K D (.type "type")=true) (h2:PySem.W.findCls K (.ref D) (.type "type") "__init__"=some (.val (.builtin "ValueError.__init__")))
    (h3:PySem.W.specialIn K (.ref D) "__getattribute__"=some (some (.builtin "type.__getattribute__"))) (hC:zez K C fI=true) (hset:setIn K C fld=true):zdm P w K mg base (CXE P w) 1 f fd ["self",y] (spI C fld):=by
  refine zi2 F S (fun vs H Q E ⟨e,i,ev,_⟩=>by rw [ev];rfl) fun cdv A outer s H vs Q E hr ⟨e,i,ev,hH,hi,q⟩=>?_
  subst ev
  rw [hb]
  have V0:Vis (zca (CXE P w) P w K mg base ["self",y] qual (zai st) f cdv A outer s H E).env.scope "self":=.inl v0
  have V1:Vis (zca (CXE P w) P w K mg base ["self",y] qual (zai st) f cdv A outer s H E).env.scope y:=.inl v1
  have a0:∀ p,PE (zca (CXE P w) P w K mg base ["self",y] qual (zai st) f cdv A outer s H E) (.Name "self" p) (tVar 0):=fun p=>zht (i:=0) rfl V0
  have a1:∀ p,PE (zca (CXE P w) P w K mg base ["self",y] qual (zai st) f cdv A outer s H E) (.Name y p) (tVar 1):=fun p=>zht (i:=1) rfl V1 hyd hyc
  obtain ⟨pl,hev⟩:=hev s.heap.objs.size cdv
  refine ⟨_,zha (zs0 (pe_ini (pl:=pl) hD (hg _ _) h1 h2 h3 (a0 p3) (pe_f2 (a1 p5)) rfl rfl rfl hev) rfl) (zha (zsy (a0 p10) (a1 p12) rfl) zms),?_⟩
  refine ⟨.ref e,rfl,Nat.le_trans hz (by rw [<- zc1];decide),.int i,rfl,i,rfl,fit_of hz (by decide) hi,e,C,fI,rfl,hH,hC,?_⟩
  exact ⟨.int i,rfl,.ref e,rfl,e,C,i,rfl,rfl,hH,hset,fun d hd hde=>q d hd hde⟩
end
end LD
namespace LD
open PySem PySem.Spec PyProof.Rows L2
def zed (fa:Fa) (P:Program) (w:World) (K:PySem.W.Frag) (mg:Str->Option Value) (base:Heap) (c:Nat) (x:Str):Prop:=
  ∃ C fI fd y oI,mg x=some (.ref C) /\ fa (cid c)=some C /\ zez K C fI=true /\ PySem.W.keepIn K (.ref C)=true /\ K.lookup fI=some oI /\ oI.cls=.type "function" /\ Binds K fd ["self",y] [] /\ zdm P w K mg base (CXE P w) 1 fI fd ["self",y] (spI C (zde c))
section
variable {X:Cx}{pins:List (Addr×Obj)}{σ:L2.St}{H H0:Hp}{s:Shared}{fa:Fa}
theorem mk_exc {c:Nat}{x:Str}{C:Addr}{i:Int}{t:Tok}{Q:Value->Shared->Prop} (J:zed fa X.prog X.w X.K X.mg X.base c x) (hr:zbd 2 X.A) (hex:X.ex=[]) (I:Inv X pins σ H s) (hC:X.mg x=some (.ref C)) (hi:i.natAbs < 2 ^ 64)
    (h:∀ e d s',fa (cid c)=some C->NewX X e->H e=none->H d=none->d≠e->Inv X pins σ (upd (upd H d (.xd [(zde c,.int i)])) e (.ext (zc0 C (some d) e))) s'->Q (.ref e) s'):wpAny (model X.prog X.w) X.A (call (.ref C) [.int i t]) Q X.xe s:=by
  obtain ⟨C',fI,fd,y,oI,m1,hf,hin,hk,hfI,hfc,hb,F⟩:=J
  rw [hC] at m1
  cases m1
  obtain ⟨bm,N,nm,q,bs,hdct,sn,sub,ab,col,dd,k0,k1,k2,k3,k5,mN,hCo,hN,hni,T⟩:=zjt I.kIn hin
  obtain ⟨hp,g,dr,tk,os⟩:=s
  refine zpp hCo T hN hni (I.kIn _ _ hfI) hfc (fun h' e hm=>?_) (by rw [<- zc1];exact Nat.le_of_ble_eq_true rfl)
  obtain ⟨tp,ht,_,_⟩:=hm.there
  obtain ⟨n1,n2⟩:=zlx I hex hm.new
  have I1:=I.kept (t':=tk) hm.keeps
  have I2:Inv X pins σ (upd H e (.ext (zc0 C none e))) ⟨h',g,dr,tk,os⟩:=zjs I1 hex n2 n1.1 ⟨_,_,ht,rfl⟩ (fun p hp z=>by
    have:=(I.pin p hp).1
    rw [z,hm.new] at this;cases this) (zij ⟨_,_,tp,ht,rfl,rfl,rfl,rfl,rfl⟩)
  have hb':=hb ⟨h',g,dr,tk,os⟩ [.ref e,.int i t] I2.kIn rfl
  rw [List.append_nil] at hb'
  refine wpAny_call (codeAny_mono (F.run _ X.stack ⟨h',g,dr,tk,os⟩ (upd H e (.ext (zc0 C none e))) ⟨[.ref e,.int i t],[]⟩ [.ref e,.int i t] [.ref e,.int i] (fun v H'=>v=.non /\ ∃ d,H d=none /\ d≠e /\ H'=upd (upd H d (.xd [(zde c,.int i)])) e (.ext (zc0 C (some d) e))) (fun _ _ _=>False) (hr.make C [.int i t] []) (I2.env0.make C [.int i t] []) hb' (.cons rfl (.cons ⟨t,rfl⟩ .nil)) ?_) fun r s' hq'=>?_)
  · refine ⟨e,i,rfl,zbg,hi,fun d hd hde=>⟨rfl,d,by rw [zar hde] at hd;exact hd,hde,?_⟩⟩
    funext b
    unfold upd
    split
    · rfl
    · split
      · rfl
      · rfl
  · cases r with
    | error e' =>
      obtain ⟨_,_,_,_,_,_,_,_,_,_,z⟩:=hq'
      exact z.elim
    | ok fl =>
      cases fl with
      | ret u =>
        obtain ⟨v,H',I3,rv,ev,d,hd,hde,eH⟩:=I2.after hq'
        subst ev eH
        exact ⟨rv,h e d s' hf n1 n2 hd hde I3⟩
      | next=>exact False.elim hq'
      | brk=>exact False.elim hq'
      | cont=>exact False.elim hq'
end
def zfw (c:Nat) (a:GE):GE:=fun ρ M=>(a ρ M).bind fun d M=>match d with
  | .int i=>if i.natAbs < 2 ^ 64 then .ok (.exc c (some i)) M else .bad
  | _=>.bad
def zdl (c:Nat) (s:GA):GE:=fun ρ M=>(s ρ M).bind fun ds M=>if ds.length≤sz then .ok (.exc c none) M else .bad
def zey (f:Str) (a:GE):GE:=fun ρ M=>(a ρ M).bind fun d M=>match d with
  | .exc c (some i)=>if zde c=f then .ok (.int i) M else .bad
  | _=>.bad
section
variable {fa:Fa}{X:Cx}{a b:PySem.Expr}{ga gb:GE}{ta:GT}{pos p np cpos:Pos}{es:List PySem.Expr}{gs:GA}{n:Nat}{x:Str}
theorem zq5 (c:Nat) {pins:List (Addr×Obj)}{σ:L2.St}{H:Hp}{s:Shared}{Q:Value->Shared->Prop} (J:zed fa X.prog X.w X.K X.mg X.base c x) (hr:zbd 2 X.A) (hex:X.ex=[]) (hg:Gl X x) (ha:DE fa X a ga) (hdb:(x==("__debug__":Str))=false) (he:notStar a=true) (I:Inv X pins σ H s)
    (h:∃ μ ρ M,za4 fa X.K μ H σ ρ /\ RelM fa X.K μ H M /\ okE (ga ρ M) fun d M'=>∃ i,d=.int i /\ i.natAbs < 2 ^ 64 /\ ∀ H1 μ1 e d C s',Ext μ H μ1 H1->za4 fa X.K μ1 H1 σ ρ->RelM fa X.K μ1 H1 M'->X.mg x=some (.ref C)->fa (cid c)=some C->NewX X e->H1 e=none->H1 d=none->d≠e->Inv X pins σ (upd (upd H1 d (.xd [(zde c,.int i)])) e (.ext (zc0 C (some d) e))) s'->Q (.ref e) s') :
    wpAny (model X.prog X.w) X.A (eval (.Call (.Name x np) [a] [] cpos) X.env) Q X.xe s:=by
  obtain ⟨μ,ρ,M,hE,hM,h⟩:=h
  obtain ⟨C,fI,fd,y,oI,m1,hf,hin,hk,r⟩:=id J
  refine wpAny_Call_Name_kw (zfh I hg m1 ?_ hdb)
  refine PySem.W.callWith_K (h₀:=X.base) I.ok.mod.kin hk (thn (zbu ha zc6 (zb2 he) cpos pins s σ H (fun vs H1=>∃ μ1 M1 i,Ext μ H μ1 H1 /\ RelM fa X.K μ1 H1 M1 /\ vs=[.int i] /\ i.natAbs < 2 ^ 64 /\ ∀ H1 μ1 e d C s',Ext μ H μ1 H1->za4 fa X.K μ1 H1 σ ρ->RelM fa X.K μ1 H1 M1->X.mg x=some (.ref C)->fa (cid c)=some C->NewX X e->H1 e=none->H1 d=none->d≠e->Inv X pins σ (upd (upd H1 d (.xd [(zde c,.int i)])) e (.ext (zc0 C (some d) e))) s'->Q (.ref e) s') I ⟨μ,ρ,M,hE,hM,zbv h fun d M' ⟨i,ed,hi,k⟩ v H1 μ1 x1 m1 r1=>by
    subst ed
    obtain rfl:v=.int i:=r1
    exact ⟨μ1,M',i,x1,m1,rfl,hi,k⟩⟩) fun us s1 ⟨vs,H1,I1,r,μ1,M1,i,x1,mm,ev,hi,k⟩=>⟨I1.kIn,?_⟩) (zb2 he) (zd0 (es:=[]) rfl)
  subst ev
  cases r with
  | cons r1 r2 =>
    cases r2
    obtain ⟨t,rfl⟩:=r1
    exact mk_exc J hr hex I1 m1 hi fun e d s' hfa n1 n2 hd hde I3=>k H1 μ1 e d C s' x1 (hE.ext x1) mm m1 hfa n1 n2 hd hde I3
theorem r_mkI (c:Nat) (J:zed fa X.prog X.w X.K X.mg X.base c x) (hr:zbd 2 X.A) (hex:X.ex=[]) (hg:Gl X x) (ha:DE fa X a ga) (hdb:(x==("__debug__":Str))=false) (he:notStar a=true):DE fa X (.Call (.Name x np) [a] [] cpos) (zfw c ga):=by
  intro pins s σ H Q I ⟨μ,ρ,M,hE,hM,h⟩
  obtain ⟨x0,M1,e0,q⟩:=za5 h
  refine zq5 c J hr hex hg ha hdb he I ⟨μ,ρ,M,hE,hM,?_⟩
  rw [e0]
  cases x0 with
  | int i =>
    dsimp only at q
    split at q
    · next hi=>
      refine ⟨i,rfl,hi,fun H1 μ1 e d C s' x1 hE1 hM1 hm hf nw he hd hde I3=>?_⟩
      have ne:upd (upd H1 d (.xd [(zde c,.int i)])) e (.ext (zc0 C (some d) e)) e=some (.ext (zc0 C (some d) e)):=zbg
      obtain ⟨⟨o,vs,t0,g1,g2,g3,g4,g5,g6⟩,_,_⟩:=I3.hok e _ ne
      have I4:=I3.write (x:=e) (e:=e) (o:=.ext (XAt C (some d) e)) (h':=s'.heap) (t':=s'.toks) (by rw [ne];exact True.intro) (.inl rfl) (fun b u hb z=>z) ⟨_,g1⟩ ⟨⟨o,vs,g1,g2,g3,g4,(Array.getElem?_eq_some_iff.mp g6).1⟩,⟨o,g1⟩,fun g1 g2 ⟨o,vs,k1,k2⟩ kk=>⟨o,vs,kk o k1,k2⟩⟩
      have eU:upd (upd (upd H1 d (.xd [(zde c,.int i)])) e (.ext (zc0 C (some d) e))) e (.ext (XAt C (some d) e))=upd (upd H1 d (.xd [(zde c,.int i)])) e (.ext (XAt C (some d) e)):=by
        funext b
        unfold upd
        split
        · rfl
        · rfl
      rw [eU] at I4
      have he':upd H1 d (.xd [(zde c,.int i)]) e=none:=by rw [zar (Ne.symm hde)];exact he
      have hMd:RelM fa X.K μ1 (upd H1 d (.xd [(zde c,.int i)])) M1:=hM1.alloc hd
      exact ⟨.ref e,_,I4,rfl,q (.ref e) _ μ1 (x1.trans ((Ext.alloc hM1 hd).trans (Ext.alloc hMd he'))) (hMd.alloc he') ⟨e,C,some d,rfl,hf,zbg,⟨d,rfl,by rw [zar hde,zbg]⟩⟩⟩
    · exact q.elim
  | _=>exact q.elim
theorem r_mkX (c:Nat) (hx:∃ C,X.mg x=some (.ref C) /\ fa (cid c)=some C /\ PySem.W.excIn X.K C bmV "ValueError.__new__"=true /\ PySem.W.keepIn X.K (.ref C)=true) (hex:X.ex=[]) (hg:Gl X x) (hs:DA fa X (a::es) gs)
    (hdb:(x==("__debug__":Str))=false) (he:notStar a=true) (hpl:es.all notStar=true):DE fa X (.Call (.Name x np) (a::es) [] cpos) (zdl c gs):=by
  intro pins s σ H Q I ⟨μ,ρ,M,hE,hM,h⟩
  obtain ⟨C,hmC,hfC,hin,hk⟩:=hx
  obtain ⟨bm,N,nm,q,bs,hdct,sn,sub,ab,col,dd,k0,k1,k2,k3,k5,mN,hC,hN,hni,T⟩:=zq4 I.ok.mod.kin hin
  obtain ⟨ds,M1,eg,h⟩:=za5 h
  split at h
  · next hz=>
    refine wpAny_Call_Name_kw (zfh I hg hmC ?_ hdb)
    refine PySem.W.callWith_K (h₀:=X.base) I.ok.mod.kin hk (thn (hs cpos pins s σ H (fun vs H1=>∃ μ1,Ext μ H μ1 H1 /\ RelM fa X.K μ1 H1 M1 /\ zat fa X.K μ1 H1 ds vs) I ⟨μ,ρ,M,hE,hM,by rw [eg];exact fun vs H1 μ1 x1 m1 r1=>⟨μ1,x1,m1,r1⟩⟩) fun us s1 ⟨vs,H1,I1,r,μ1,x1,m1,r1⟩=>⟨I1.kIn,?_⟩) (zb2 he) (zd0 hpl)
    obtain ⟨hp,g,dr,tk,os⟩:=s1
    refine wpAny_call_exc_subT PySem.F.excBase_ValueError (T.keeps I1.bk) (I1.bk _ _ hC) (hN.keeps I1.bk) hni (fun h' e hm=>?_) (by rw [List.nil_append,<- r.length,r1.length,<- zc1];exact hz)
    obtain ⟨t,ht,_,_⟩:=hm.there
    obtain ⟨n1,n2⟩:=zlx I1 hex hm.new
    have I2:=zjs (o:=.ext (XAt C none e)) (I1.kept (t':=tk) hm.keeps) hex n2 n1.1 ⟨_,_,ht,rfl⟩ (fun p hp z=>by
      have:=(I1.pin p hp).1
      rw [z,hm.new] at this;cases this) ⟨⟨_,_,ht,rfl,rfl,rfl,Nat.le_of_ble_eq_true rfl⟩,⟨_,ht⟩,fun g1 g2 ⟨o,vs,k1,k2⟩ kk=>⟨o,vs,kk o k1,k2⟩⟩
    exact ⟨.ref e,_,I2,rfl,h (.ref e) _ μ1 (x1.trans (Ext.alloc m1 n2)) (m1.alloc n2) ⟨e,C,none,rfl,hfC,zbg,rfl⟩⟩
  · exact h.elim
def XFl (fa:Fa) (K:PySem.W.Frag) (f:Str):Prop:=∀ c C,fa (cid c)=some C->zde c=f->PySem.W.hasDictIn K C=true /\ PySem.W.findIn K (.ref C) f=some none
theorem zst (f:Str) (hc:XCs fa X.K) (hf:XFl fa X.K f) (ha:DE fa X a ga) (hb:attributeBase a f X.env (eval a X.env)=eval a X.env):DE fa X (.Attribute a f pos) (zey f ga):=by
  intro pins s σ H Q I ⟨μ,ρ,M,hE,hM,h⟩
  obtain ⟨x0,M1,eg,h⟩:=za5 h
  refine zt7 hb (thn (ha pins s σ H (fun v H1=>∃ μ1,Ext μ H μ1 H1 /\ RelM fa X.K μ1 H1 M1 /\ Rep fa X.K μ1 H1 x0 v) I ⟨μ,ρ,M,hE,hM,by rw [eg];exact fun v H1 μ1 x1 m1 r1=>⟨μ1,x1,m1,r1⟩⟩) fun u s1 ⟨v,H1,I1,rv,μ1,x1,m1,r1⟩=>?_)
  cases x0 with
  | exc c p =>
    cases p with
    | none=>exact h.elim
    | some i =>
      dsimp only at h
      split at h
      · next ef=>
        obtain ⟨e,C,dx,rfl,hfa,hH,d,rfl,hd⟩:=r1
        obtain rfl:u=Value.ref e:=rv
        obtain ⟨⟨o,vs,h1,h2,h3,h4,h5⟩,_,_⟩:=I1.hok e _ hH
        obtain ⟨mA,hns,hl⟩:=I1.hok d _ hd
        obtain ⟨od,hod,look⟩:=zjr hns
        have IA:PySem.W.InstAt s1.heap e o C (some od):=⟨h1,h2,by unfold PySem.W.notCls;rw [h4],by rw [h3];exact hod⟩
        have hlf:=hl f
        rw [ef] at hlf
        simp only [List.lookup_cons,beq_self_eq_true] at hlf
        obtain ⟨u,hu,ru⟩:=RelO.some_of hlf
        obtain ⟨t,rfl⟩:=ru
        obtain ⟨f1,f2⟩:=hf c C hfa ef
        unfold getAttr
        refine wpAny_bind (wpAny_mkText (zm0 (s:={s1 with toks:=s1.toks+1}) (r:=.value (.int i t)) I1.kIn IA (hc.g c C hfa).1 (PySem.W.findObj_own f1 f2 rfl (by rw [look f,hu])) ?_))
        exact PySem.W.handed_on rfl ⟨.int i,H1,I1.tok _,⟨t,rfl⟩,h (.int i) H1 μ1 x1 m1 rfl⟩
      · exact h.elim
  | _=>exact h.elim
end
end LD
namespace LD
open PySem PySem.Spec PyProof.Rows L2 PySem.Builtin.Str
def strsOf:List D->Option (List Str)
  | []=>some []
  | .str x::r=>(strsOf r).map (x::·)
  | _=>none
def zf8 (sep:Str) (xs:List Str):Bool:=!(PySem.Builtin.Str.tooLong (xs.toArray.foldl (·+·.length+sep.length) 0))&&decide ((PySem.Builtin.Str.glued sep xs).length≤sz)
def zfx (sep:Str) (a:GE):GE:=fun ρ M=>(a ρ M).bind fun x M=>match (rdD M x).bind strsOf with
  | some xs=>if zf8 sep xs then .ok (.str (PySem.Builtin.Str.glued sep xs)) M else .bad
  | none=>.bad
section
variable {fa:Fa}{X:Cx}{μ:Mu}{H:Hp}
theorem zqh:∀ {ds:List D}{xs:List Str}{vs:List V}{us:List Value},strsOf ds=some xs->zat fa X.K μ H ds vs->Vals vs us->∃ l:List (Str×Tok),us=strValues l /\ l.map (·.1)=xs:=by
  intro ds
  induction ds with
  | nil =>
    intro xs vs us e h r
    obtain rfl:vs=[]:=h
    cases r;cases e
    exact ⟨[],rfl,rfl⟩
  | cons d ds ih =>
    intro xs vs us e h r
    obtain ⟨v,vr,rfl,h1,h2⟩:=h
    cases r with
    | cons r1 r2 =>
      cases d with
      | str x =>
        obtain ⟨ys,e1,rfl⟩:=Option.map_eq_some_iff.mp e
        obtain ⟨l,rfl,e2⟩:=ih e1 h2 r2
        obtain rfl:v=.str x:=h1
        obtain ⟨t,rfl⟩:=r1
        exact ⟨(x,t)::l,rfl,by simp [e2]⟩
      | _=>cases e
def rJoin (fa:Fa) (K:PySem.W.Frag) (sep:Str) (x:V) (vs:List V) (H:Hp) (Q:VK):Prop:=∃ μ ds xs p ws,x=.str sep /\ vs=[.ref p] /\ SqL K H p ws /\ zat fa K μ H ds ws /\ strsOf ds=some xs /\ zf8 sep xs=true /\ Q (.str (PySem.Builtin.Str.glued sep xs)) H
theorem ztg {sep:Str}:MtR X "str.join" (rJoin fa X.K sep):=by
  intro pins s σ H x vs v us Q I rx rv h
  obtain ⟨μ,ds,xs,p,ws,rfl,rfl,hq,rl,eb,hf,q⟩:=h
  obtain ⟨t,rfl⟩:=rx
  obtain ⟨u,rfl,ru⟩:=vals1 rv
  obtain rfl:u=Value.ref p:=ru
  obtain ⟨its,rv,hp,hz⟩:=I.list hq
  obtain ⟨l,rfl,rfl⟩:=zqh eb rl rv
  unfold zf8 at hf
  rw [Bool.and_eq_true,decide_eq_true_eq,zc1] at hf
  have hl:PySem.Builtin.Str.tooLong ((l.map (·.1)).toArray.foldl (·+·.length+sep.length) 0)=false:=by
    have hf:=hf.1
    cases e:PySem.Builtin.Str.tooLong ((l.map (·.1)).toArray.foldl (·+·.length+sep.length) 0) with
    | true=>rw [e] at hf;cases hf
    | false=>rfl
  refine call_meets PySem.F.slot_str_join (typeIs_str _ _ _) PySem.F.entry_str_join (PySem.F.args_str_join_2 _ _) (meets_str_join_list sep t p l hl) ⟨hp.isList,?_⟩
  match l,q,hf.2 with
  | [],q,hg=>exact ⟨hg,.str _,H,I.tok _,⟨_,rfl⟩,q⟩
  | [(y, k)], q, _ =>
    have e:PySem.Builtin.Str.glued sep [y]=y:=rfl
    exact ⟨.str y,H,I,⟨_,rfl⟩,by rw [<- e];exact q⟩
  | _::_::_,q,hg=>exact ⟨hg,.str _,H,I.tok _,⟨_,rfl⟩,q⟩
variable {a:PySem.Expr}{ga:GE}{apos cpos kp:Pos}{j:Nat}
theorem r_join (sep:Str) (ha:DE fa X a ga) (hbase:attributeBase (.Constant (.str sep) j kp) "join" X.env (eval (.Constant (.str sep) j kp) X.env)=eval (.Constant (.str sep) j kp) X.env) (hline:(apos.endLine==cpos.line)=true)
    (hfew:((backTo cpos (starEach [a] X.env)).all (fun x=>!x.1)&&(backToKw cpos (keywordEach [] X.env)).all (fun x=>x.1.isSome)&&decide ([a].length+([]:List Keyword).length+(if ([]:List Keyword).isEmpty then 0 else 1) < 30))=true) (hs:notStar a=true) :
    DE fa X (.Call (.Attribute (.Constant (.str sep) j kp) "join" apos) [a] [] cpos) (zfx sep ga):=
  zcb (zne PySem.F.plainAttrs_str PySem.F.slot_str_join PySem.F.type_str_join (ztg (fa:=fa) (sep:=sep)) zo4 (zbu ha zc6 (zb2 hs)) hbase hfew hline (zb2 hs) (by rfl)) fun σ H Q ⟨μ,ρ,M,hE,hM,h⟩=>⟨rfl,t1 hE hM h fun x M1 v H1 μ1 x1 hE1 hM1 r1 h1=>by
    cases e3:(rdD M1 x).bind strsOf with
    | none=>rw [e3] at h1;exact h1.elim
    | some xs=>
        rw [e3] at h1
        obtain ⟨ds,e,e2⟩:=Option.bind_eq_some_iff.mp e3
        have h1:okE (if zf8 sep xs then .ok (.str (PySem.Builtin.Str.glued sep xs)) M1 else .bad) (zbb fa X.K μ H Q):=h1
        split at h1
        · next hm=>
          obtain ⟨p,ws,rfl,hq,rl⟩:=zbl hM1 r1 e
          exact ⟨μ1,ds,xs,p,ws,rfl,rfl,hq,rl,e2,hm,za6 (v:=.str _) hM1 (zbb.ext h1 x1) rfl⟩
        · exact h1.elim⟩
end
end LD
namespace LD
open PySem PySem.Spec PyProof.Rows L2
theorem zna {n:Nat}{A:Around} (h:zbd (n+4) A):zbd 2 A:=h.mono (by omega)
def inC (s:PySem.Stmt):PySem.Stmt:=match s with
  | .ClassDef _ _ _ (b::_) _ _ _ _ _ _ _=>b
  | _=>s
def iniB (K:PySem.W.Frag) (C D fI:Addr) (fld:Str):Bool:=zez K C fI&&PySem.W.keepIn K (.ref C)&&PySem.W.readsIn K D (.type "type")&&(PySem.W.specialIn K (.ref D) "__getattribute__"==some (some (.builtin "type.__getattribute__")))&&setIn K C fld&&PySem.W.keepIn K (.ref fI)
theorem zhd {fa:Fa}{w:World}{K:PySem.W.Frag}{mg:Str->Option Value}{h:Heap}{c:Nat}{x qual y z pm:Str}{st:PySem.Stmt}{C D fI cd:Addr}{t:Tok}{p1 p2 p3 p4 p5 p6 p7 p8 p9 p10 p11 p12 p13:Pos}{j:Nat} (X:K.In h) (G:h.Ns mainGlobals mg)
    (a:PySem.W.nsIn K mainGlobals x=some (some (.ref C))) (aD:PySem.W.nsIn K mainGlobals "DeedError"=some (some (.ref D))) (hf:fa (cid c)=some C) (b:iniB K C D fI (zde c)=true) (h2:PySem.W.findCls K (.ref D) (.type "type") "__init__"=some (.val (.builtin "ValueError.__init__")))
    (l:K.lookup fI=some ⟨.type "function",none,.func (PySem.W.fnOf "__init__" qual (zds st) (zbe st) (zai st) .none .none .none (.str pm t) none (.ref cd) .none),#[]⟩) (e:PySem.W.codeIn K (.ref cd) qual=true) (S:zbw ["self",y] ["self",y] (zai st))
    (hb:zbe st=[.Expr (.Call (.Attribute (.Name "DeedError" p1) "__init__" p2) [.Name "self" p3,.JoinedStr [.Constant (.str z) j p4,.FormattedValue (.Name y p5) (-1) none p6] p7] [] p8) p9,.Assign [.Attribute (.Name "self" p10) (zde c) p11] (.Name y p12) p13])
    (hev:∀ L cd,IniEv "DeedError" "__init__" (.Name "self" p3) (.JoinedStr [.Constant (.str z) j p4,.FormattedValue (.Name y p5) (-1) none p6] p7) p1 p2 p8 (envOfC qual (zai st) L fI cd))
    (hz:z.length≤1000) (hyd:(y==("__debug__":Str))=false) (hyc:(y==("__classdict__":Str))=false) (v0:(zai st).names.lookup ("self":Str)=some .local) (v1:(zai st).names.lookup y=some .local)
    (hg:∀ L cd,(envOfC qual (zai st) L fI cd).kindOf "DeedError"=some .globalImplicit)
    (hbd:∀ (kV doc pm:Value) (an:Option Addr) (cdv ct u1 u2:Value),bindArgs (PySem.W.fnOf "__init__" qual (zds st) (zbe st) (zai st) .none kV doc pm an cdv ct) ⟨[u1,u2],[]⟩=pure ((["self",y]:List Str).zip [u1,u2])) (P:Program) (base:Heap):zed fa P w K mg base c x:=by
  simp only [iniB,Bool.and_eq_true,beq_iff_eq] at b
  obtain ⟨⟨⟨⟨⟨b1,b2⟩,b3⟩,b4⟩,b5⟩,b6⟩:=b
  have F:=zpf l e b6
  exact ⟨C,fI,_,y,_,PySem.W.mg_of X G a,hf,b1,b2,l,rfl,F.binds fun kV doc pm an cdv ct us hl=>us2 (p:=fun us=>bindArgs (PySem.W.fnOf "__init__" qual (zds st) (zbe st) (zai st) .none kV doc pm an cdv ct) ⟨us,[]⟩=pure ((["self",y]:List Str).zip us)) (hbd kV doc pm an cdv ct) us hl,
    ini_ok F S hb hev hz hyd hyc v0 v1 hg (PySem.W.mg_of X G aD) b3 h2 b4 b1 b5⟩
def xflB (K:PySem.W.Frag) (cl:List (Nat×Addr)) (f:Str):Bool:=cl.all fun q=>!(zde q.1==f)||(PySem.W.hasDictIn K q.2&&PySem.W.findIn K (.ref q.2) f==some none)
theorem zoe {K:PySem.W.Frag}{l cl:List (Nat×Addr)}{D:Addr}{f:Str} (h:xflB K cl f=true):XFl (faX l cl D) K f:=fun c C e ef=>by
  unfold xflB at h
  have:=(List.all_eq_true.mp h) _ (zfk e)
  simp only [ef,beq_self_eq_true,Bool.not_true,Bool.false_or,Bool.and_eq_true,beq_iff_eq] at this
  exact this
end LD
namespace LD
open PySem PySem.Spec PyProof.Rows L2
structure Box (p:Prop):Prop where
  h:p
section
variable {fa:Fa}{X:Cx}{a b c d elt tg iter t2 i2:PySem.Expr}{ga gb gd ge:GE}{ta tb gc:GT}{pos p p2 py spos:Pos}{es:List PySem.Expr}{gs:GA}{n:Nat}{scope:Scope}{own bn:List Str}{t u:Tgt}{gw gw2:GW}{i j:Nat}{x y nm:Str}{np hp apos cpos kp p1:Pos}{body suite:List PySem.Stmt}{b0:PySem.Stmt}{gB gH:GS}{j2:Nat}{p3:Pos}{z:Str}
theorem za0 {i:Nat}{x:Str} (hN:X.N.Nodup) (hi:X.N[i]?=some x) (hx:Loc X.env.scope x) (hf:X.fn x=true \/ X.env.scope.names.lookup x=some .local):Box (PG X (.Name x pos) (gT fa X.K (.one i))):=⟨zty hN hi hx hf⟩
theorem zmo (hc:X.calm=true) (hN:X.N.Nodup) {l:List Nat}{ns:List PySem.Expr}{k:Nat} (h:ze5 X l ns):Box (PG X (.Tuple ns k pos) (gT fa X.K (.tup l))):=⟨dg_tup hc hN h⟩
theorem zsd (ha:Box (DE fa X a ga)):Box (DI fa X tg a (zck ga)):=⟨di_seq ha.h⟩
theorem zk1 (ha:Box (DE fa X a ga)) (hg:Gl X "range") (hm:X.mg "range"=none) (hs:starEach [a] X.env=[(false,eval a X.env)]):Box (DI fa X tg (.Call (.Name "range" p) [a] [] pos) (zci ga)):=⟨ztw ha.h hg hm hs⟩
theorem zp1 {elts:List PySem.Expr}{kk:Nat}{tp:Pos} (ha:Box (DE fa X a ga)) (hg:Gl X "enumerate") (hm:X.mg "enumerate"=none) (hs:starEach [a] X.env=[(false,eval a X.env)]):Box (DI fa X (.Tuple elts kk tp) (.Call (.Name "enumerate" p) [a] [] pos) (zen ga)):=⟨ztx ha.h hg hm hs⟩
theorem zpz {fa:Fa}{X:Cx}{elts:List PySem.Expr}{kk:Nat}{tp p pos:Pos}{e0 e1:PySem.Expr}{g0 g1:Env->Mem->Res D} (h0:Box (DE fa X e0 g0)) (h1:Box (DE fa X e1 g1)) (hg:Gl X "zip") (hm:X.mg "zip"=none) (hs0:starEach [e0,e1] X.env=[(false,eval e0 X.env),(false,eval e1 X.env)]) (hs1:starEach [e1] X.env=[(false,eval e1 X.env)]):Box (DI fa X (.Tuple elts kk tp) (.Call (.Name "zip" p) [e0,e1] [] pos) (zgr g0 g1)):=⟨ztu h0.h h1.h hg hm hs0 hs1⟩
theorem zag {i:Nat}{x:Str} (hN:X.N[i]?=some x) (hv:Vis X.env.scope x) (hd:(x==("__debug__":Str))=false) (hcd:(x==("__classdict__":Str))=false):Box (DE fa X (.Name x pos) (zab i)):=⟨r_var hN hv hd hcd⟩
theorem zap {i:Int}{j:Nat}:Box (DE fa X (.Constant (.int i) j pos) (gC (.int i))):=⟨r_int⟩
theorem zhi {i:Bool}{j:Nat}:Box (DE fa X (.Constant (.bool i) j pos) (gC (.bl i))):=⟨r_bl⟩
theorem za9 {i:Str}{j:Nat}:Box (DE fa X (.Constant (.str i) j pos) (gC (.str i))):=⟨r_str⟩
theorem zod {j:Nat}:Box (DE fa X (.Constant .none j pos) (gC .non)):=⟨r_non⟩
theorem zau (m:Bool) (o:Bin) (ha:Box (DE fa X a ga)) (hb:Box (DE fa X b gb)):Box (DE fa X (.BinOp a (binOp o) b pos) (zak m o ga gb)):=⟨r_bin m o ha.h hb.h⟩
theorem zf3 (hu:Rm X) (o:Cmp) (ha:Box (DE fa X a ga)) (hb:Box (DE fa X b gb)) (hm:behindInMarks (zdt o) b=false):Box (DE fa X (.Compare a [zdt o] [b] pos) (zaw o ga gb)):=⟨r_cmp hu o ha.h hb.h hm⟩
theorem zdw (hu:Rm X) (o:Cmp) (ha:Box (DE fa X a ga)) (hb:Box (DE fa X b gb)) (hm:behindInMarks (zdt o) b=false):Box (DT fa X (.Compare a [zdt o] [b] pos) (zam (zaw o ga gb))):=⟨q_cmp hu o ha.h hb.h hm⟩
theorem zhj {rest:List PySem.Expr} (ha:Box (DE fa X a ga)) (hb:Box (DE fa X (.BoolOp .And (b::rest) pos) gb)):Box (DE fa X (.BoolOp .And (a::b::rest) pos) (zcs ga gb)):=⟨r_and ha.h hb.h⟩
theorem zkx {op:PySem.BoolOp} (ha:Box (DE fa X a ga)):Box (DE fa X (.BoolOp op [a] pos) ga):=⟨r_one ha.h⟩
theorem zkm {rest:List PySem.Expr} (ha:Box (DT fa X a ta)) (hb:Box (DW fa X (.BoolOp .Or (b::rest) pos) tb)):Box (DW fa X (.BoolOp .Or (a::b::rest) pos) (tOr ta tb)):=⟨q_or ha.h hb.h⟩
theorem zkz (ha:Box (DT fa X a ta)):Box (DW fa X (.BoolOp .Or [a] pos) ta):=⟨q_or1 ha.h⟩
theorem xq_w (h:Box (DW fa X a ta)):Box (DT fa X a ta):=⟨q_w h.h⟩
theorem zk0 (ha:Box (DT fa X a ta)):Box (DT fa X (.UnaryOp .Not a pos) (zbf ta)):=⟨q_not ha.h⟩
theorem zdv (ha:Box (DE fa X a ga)) (he:∀ whole,isTrue a X.env whole=(do let v <- whole;standAt a.pos;holding [v] (truthy v))):Box (DT fa X a (zam ga)):=⟨q_tru ha.h he⟩
theorem zb1 (ha:Box (DE fa X a ga)) (hb:Box (DE fa X b gb)) (hs:zgw b):Box (DE fa X (.Subscript a b pos) (zaq ga gb)):=⟨r_idx ha.h hb.h hs⟩
theorem zoc (m hl hh:Bool) {lo hi:Option PySem.Expr}{gl gh:GE}{p2:Pos} (ha:Box (DE fa X a ga)) (hlo:Box (DO fa X lo hl gl)) (hhi:Box (DO fa X hi hh gh)):Box (DE fa X (.Subscript a (.Slice lo hi none p2) pos) (zcm m hl hh ga gl gh)):=⟨r_slc m hl hh ha.h hlo.h hhi.h⟩
theorem zsc :Box (DO fa X none false (gC .non)):=⟨o_none⟩
theorem zii (ha:Box (DE fa X a ga)):Box (DO fa X (some a) true ga):=⟨o_some ha.h⟩
theorem zas :Box (DA fa X [] zad):=⟨a_nil⟩
theorem zaf (ha:Box (DE fa X a ga)) (hs:Box (DA fa X es gs)) (h0:notStar a=true):Box (DA fa X (a::es) (zaa ga gs)):=⟨a_cons ha.h hs.h h0⟩
theorem za7 (m:Bool) (hs:Box (DA fa X es gs)):Box (DE fa X (.List es pos) (za2 m gs)):=⟨r_lst m hs.h⟩
theorem zc2 (f:Nat) {x:Str}{call:Call} (C:∀ f,zee fa X.prog X.w X.K X.mg X.base n f (call f)) (hr:zbd (n+4) X.A) (hg:Gl X x) (hm:∀ ad,fa f=some ad->X.mg x=some (.ref ad)) (hs:Box (DA fa X (a::es) gs)) (hdb:(x==("__debug__":Str))=false) (he:notStar a=true) (hpl:es.all notStar=true):Box (DE fa X (.Call (.Name x p) (a::es) [] pos) (zah f call gs)):=⟨r_call f C hr hg hm hs.h hdb he hpl⟩
theorem zfb (hg:Gl X "len") (hm:X.mg "len"=none) (hs:Box (DA fa X (a::es) gs)) (he:notStar a=true) (hpl:es.all notStar=true):Box (DE fa X (.Call (.Name "len" p) (a::es) [] pos) (za1 .len gs)):=⟨r_len hg hm hs.h he hpl⟩
theorem zr8 (m:Bool) (hg:Gl X "list") (hm:X.mg "list"=none) (hs:Box (DA fa X (a::es) gs)) (he:notStar a=true) (hpl:es.all notStar=true):Box (DE fa X (.Call (.Name "list" p) (a::es) [] pos) (za1 (.list m) gs)):=⟨r_list m hg hm hs.h he hpl⟩
theorem zcw (t:Ty) (ht:∀ c,t≠.own c) {x:Str}{p1 p2:Pos} (ha:Box (DE fa X a ga)) (hg:Gl X "isinstance") (hm:X.mg "isinstance"=none) (hgt:Gl X x) (hmt:X.mg x=none) (hvt:bootBuiltins x=some (.type (tyName t))) (hn:x≠"__name__") (hdb:(x==("__debug__":Str))=false) (he:starEach [a,.Name x p1] X.env=(false,eval a X.env)::starEach [.Name x p1] X.env):Box (DE fa X (.Call (.Name "isinstance" p2) [a,.Name x p1] [] pos) (zbj t ga)):=⟨r_inst t ht ha.h hg hm hgt hmt hvt hn hdb he⟩
theorem zbi {tg:PySem.Expr}{t:Tgt} (ha:Box (DE fa X a ga)) (hg:Box (PG X tg (gT fa X.K t))) (hs:swapsWithSole [tg] a pos.line X.env=pure false) (hw:swappedStores [tg] a X.env=pure none) (h1:(assignEach [tg] X.env).map (·.2)=[assign tg X.env]):Box (DS fa X (.Assign [tg] a pos) (zan t ga)):=⟨s_asg ha.h hg.h hs hw h1⟩
theorem zf2 {p2:Pos} (ha:Box (DE fa X a ga)) (hb:Box (DE fa X b gb)) (hd:Box (DE fa X d gd)) (h0:∀ v,assign (.Subscript a b p2) X.env v=(do
      let ov <- holding [v] (eval a X.env)
      let iv <- holding [v,ov] (eval b X.env)
      standAt p2
      holding [v,ov,iv] (setItem ov iv v)
      release [v,ov,iv] [])) (hs:swapsWithSole [.Subscript a b p2] d pos.line X.env=pure false) (hw:swappedStores [.Subscript a b p2] d X.env=pure none) (h1:(assignEach [.Subscript a b p2] X.env).map (·.2)=[assign (.Subscript a b p2) X.env]):Box (DS fa X (.Assign [.Subscript a b p2] d pos) (zdf ga gb gd)):=⟨s_put ha.h hb.h hd.h h0 hs hw h1⟩
theorem zbx (ha:Box (DE fa X a ga)):Box (DS fa X (.Return (some a) pos) (zal ga)):=⟨s_ret ha.h⟩
theorem zco {c:PySem.Expr}{st sf:List PySem.Stmt}{gt gf:GS} (hc:Box (DT fa X c ta)) (ht:Box (DSs fa X st gt)) (hf:Box (DSs fa X sf gf)):Box (DS fa X (.If c st sf pos) (zav ta gt gf)):=⟨s_ite hc.h ht.h hf.h⟩
theorem zoa {t:Tgt}{tg:PySem.Expr}{body:List PySem.Stmt}{gw:GW}{gb:GS} (hp:PassesOwn (model X.prog X.w) X.A X.env X.xe) (hc:X.calm=true) (hi:Box (DI fa X tg a gw)) (hg:Box (PG X tg (gT fa X.K t))) (hb:Box (DSs fa X body gb)) (hs:∀ x,foldedSetIterable a X.env x=pure x):Box (DS fa X (.For tg a body [] pos) (zc4 t gw gb)):=⟨s_for hp hc hi.h hg.h hb.h hs⟩
theorem zax :Box (DSs fa X [] zae):=⟨ss_nil⟩
theorem zaj {st:PySem.Stmt}{ss:List PySem.Stmt}{g g':GS} (h1:Box (DS fa X st g)) (h2:Box (DSs fa X ss g')):Box (DSs fa X (st::ss) (zac g g')):=⟨zsj h1.h h2.h⟩
theorem zg1 (m:Bool) (S:zdo X own bn scope) (hc:X.calm=true) (hi:Box (DI fa X tg iter gw)) (pg:∀ cl C fp s H,Box (PG (zcg X own bn scope cl C fp s H) tg (gT fa X.K t))) (he:∀ cl C fp s H,Box (DE fa (zcg X own bn scope cl C fp s H) elt ge)) (hn:(slots t).all (· < own.length)=true) (hs:∀ x,foldedSetIterable iter X.env x=pure x):Box (DE fa X (.ListComp elt [⟨tg,iter,[],0⟩] scope pos) (za8 m own.length t gw (zbm ge))):=⟨zss m S hc hi.h (fun cl C fp s H=>(pg cl C fp s H).h) (fun cl C fp s H=>(he cl C fp s H).h) hn hs⟩
theorem zob (m:Bool) (S:zdo X own bn scope) (hc:X.calm=true) (hi:Box (DI fa X tg iter gw)) (pg:∀ cl C fp s H,Box (PG (zcg X own bn scope cl C fp s H) tg (gT fa X.K t))) (ht:∀ cl C fp s H,Box (DT fa (zcg X own bn scope cl C fp s H) c gc)) (he:∀ cl C fp s H,Box (DE fa (zcg X own bn scope cl C fp s H) elt ge)) (hn:(slots t).all (· < own.length)=true) (hs:∀ x,foldedSetIterable iter X.env x=pure x) (hN:X.N.Nodup) (hy:X.N[i]?=some y) (hl:X.env.scope.names.lookup y=some .local) (hsw:swapsWith (.ListComp elt [⟨tg,iter,[c],0⟩] scope pos) (some (.Name y py)) spos.line X.env=pure true):Box (DS fa X (.Assign [.Name y py] (.ListComp elt [⟨tg,iter,[c],0⟩] scope pos) spos) (zan (.one i) (za8 m own.length t gw (gIf gc (zbm ge))))):=⟨zqf m S hc hi.h (fun cl C fp s H=>(pg cl C fp s H).h) (fun cl C fp s H=>(ht cl C fp s H).h) (fun cl C fp s H=>(he cl C fp s H).h) hn hs hN hy hl hsw⟩
theorem zp0 (ha:Box (DE fa X a ga)):Box (DI fa X tg a (zh8 ga)):=⟨ztv ha.h⟩
theorem zb6 (k:Nat) (hc:XCs fa X.K) (hx:∃ D,X.mg x=some (.ref D) /\ fa (cid k)=some D) (ha:Box (DE fa X a ga)) (hg:Gl X "isinstance") (hm:X.mg "isinstance"=none) (hgt:Gl X x) (hdb:(x==("__debug__":Str))=false) (he:starEach [a,.Name x p1] X.env=(false,eval a X.env)::starEach [.Name x p1] X.env):Box (DE fa X (.Call (.Name "isinstance" p2) [a,.Name x p1] [] pos) (zbo (some k) ga)):=⟨zsp k hc hx ha.h hg hm hgt hdb he⟩
theorem zpx (hc:XCs fa X.K) (hx:∃ D,X.mg x=some (.ref D) /\ fa 999=some D) (ha:Box (DE fa X a ga)) (hg:Gl X "isinstance") (hm:X.mg "isinstance"=none) (hgt:Gl X x) (hdb:(x==("__debug__":Str))=false) (he:starEach [a,.Name x p1] X.env=(false,eval a X.env)::starEach [.Name x p1] X.env):Box (DE fa X (.Call (.Name "isinstance" p2) [a,.Name x p1] [] pos) (zbo none ga)):=⟨zsr hc hx ha.h hg hm hgt hdb he⟩
theorem zpw (hc:XCs fa X.K) (ha:Box (DE fa X a ga)) (hg:Gl X "isinstance") (hm:X.mg "isinstance"=none) (hgt:Gl X "ValueError") (hmt:X.mg "ValueError"=none) (he:starEach [a,.Name "ValueError" p1] X.env=(false,eval a X.env)::starEach [.Name "ValueError" p1] X.env):Box (DE fa X (.Call (.Name "isinstance" p2) [a,.Name "ValueError" p1] [] pos) (zbo none ga)):=⟨zsq hc ha.h hg hm hgt hmt he⟩
theorem zsb (ha:Box (DE fa X a ga)) (hbase:attributeBase a "count" X.env (eval a X.env)=eval a X.env) (hline:(apos.endLine==cpos.line)=true):Box (DE fa X (.Call (.Attribute a "count" apos) [.Constant (.bool true) j kp] [] cpos) (znw ga)):=⟨r_cntT ha.h hbase hline⟩
theorem zsa (ha:Box (DE fa X a ga)) (hbase:attributeBase a "index" X.env (eval a X.env)=eval a X.env) (hline:(apos.endLine==cpos.line)=true):Box (DE fa X (.Call (.Attribute a "index" apos) [.Constant (.bool true) j kp] [] cpos) (znu ga)):=⟨r_idxT ha.h hbase hline⟩
theorem zky (c:Nat) (J:zed fa X.prog X.w X.K X.mg X.base c x) (hr:zbd 2 X.A) (hex:X.ex=[]) (hg:Gl X x) (ha:Box (DE fa X a ga)) (hdb:(x==("__debug__":Str))=false) (he:notStar a=true):Box (DE fa X (.Call (.Name x np) [a] [] cpos) (zfw c ga)):=⟨r_mkI c J hr hex hg ha.h hdb he⟩
theorem zdi (c:Nat) (hx:∃ C,X.mg x=some (.ref C) /\ fa (cid c)=some C /\ PySem.W.excIn X.K C bmV "ValueError.__new__"=true /\ PySem.W.keepIn X.K (.ref C)=true) (hex:X.ex=[]) (hg:Gl X x) (hs:Box (DA fa X (a::es) gs)) (hdb:(x==("__debug__":Str))=false) (he:notStar a=true) (hpl:es.all notStar=true):Box (DE fa X (.Call (.Name x np) (a::es) [] cpos) (zdl c gs)):=⟨r_mkX c hx hex hg hs.h hdb he hpl⟩
theorem zg2 (f:Str) (hc:XCs fa X.K) (hf:XFl fa X.K f) (ha:Box (DE fa X a ga)) (hb:attributeBase a f X.env (eval a X.env)=eval a X.env):Box (DE fa X (.Attribute a f pos) (zey f ga)):=⟨zst f hc hf ha.h hb⟩
theorem zr9 (sep:Str) (ha:Box (DE fa X a ga)) (hbase:attributeBase (.Constant (.str sep) j kp) "join" X.env (eval (.Constant (.str sep) j kp) X.env)=eval (.Constant (.str sep) j kp) X.env) (hline:(apos.endLine==cpos.line)=true) (hfew:((backTo cpos (starEach [a] X.env)).all (fun x=>!x.1)&&(backToKw cpos (keywordEach [] X.env)).all (fun x=>x.1.isSome)&&decide ([a].length+([]:List Keyword).length+(if ([]:List Keyword).isEmpty then 0 else 1) < 30))=true) (hs:notStar a=true):Box (DE fa X (.Call (.Attribute (.Constant (.str sep) j kp) "join" apos) [a] [] cpos) (zfx sep ga)):=⟨r_join sep ha.h hbase hline hfew hs⟩
theorem unbox {st:List PySem.Stmt}{g:GS} (h:Box (DSs fa X st g)):DSs fa X st g:=h.h
end
end LD
namespace LD
open PySem
def zlz:List (Str×Nat):=[("turn",7),("join",8),("move",9),("put",10)]
def zl0:List (Str×Nat):=[("turn",20),("join",21),("move",22),("put",23)]
def zgh (c:Call):GS:=zac (zav (tOr (zam (zbj .bool (zab 0))) (zbf (zam (zbj .int (zab 0))))) (zac (zal (gC (.bl false))) (zae)) (zae)) (zac (zal (gChn .le .le (zab 1) (zab 0) (zab 2))) (zae))
def zj4 (c:Call):GS:=zac (zal (zah 0 c (zaa (zab 1) (zaa (gC (.int 0)) (zaa (zak false .sub (zab 0) (gC (.int 1))) (zad)))))) (zae)
def zie (c:Call):GS:=zac (zal (zah 0 c (zaa (zab 1) (zaa (gC (.int 0)) (zaa (zak false .sub (zab 0) (gC (.int 1))) (zad)))))) (zae)
def zj9 (c:Call):GS:=zac (zal (zah 0 c (zaa (zab 0) (zaa (gC (.int 1)) (zaa (gC (.int 3)) (zad)))))) (zae)
def zf1 (c:Call):GS:=zac (zal (zcs (zbj .tuple (zab 1)) (zaw .eq (za1 .len (zaa (zab 1) (zad))) (zab 0)))) (zae)
def zid (c:Call):GS:=zac (zal (zcs (zah 4 c (zaa (zab 0) (zaa (zab 1) (zad)))) (za1 .all (zaa (za8 false 1 (.one 0) (zck (zab 1)) (zbm (zah 1 c (zaa (zab 1) (zaa (zab 0) (zad)))))) (zad))))) (zae)
def zek (c:Call):GS:=zac (zal (zcs (zah 4 c (zaa (zab 0) (zaa (zab 1) (zad)))) (za1 .all (zaa (za8 false 1 (.one 0) (zck (zab 1)) (zbm (zah 5 c (zaa (zab 1) (zaa (zab 0) (zad)))))) (zad))))) (zae)
def zj5 (c:Call):GS:=zac (zav (zam (zaw .ne (za1 .len (zaa (zab 2) (zad))) (gC (.int 3)))) (zac (zal (gC (.bl false))) (zae)) (zae)) (zac (zan (.tup [3,4,5]) (zab 2)) (zac (zal (zcs (zah 2 c (zaa (zab 1) (zaa (zab 3) (zad)))) (zcs (zah 5 c (zaa (zab 0) (zaa (zab 4) (zad)))) (zah 3 c (zaa (zab 5) (zad)))))) (zae)))
def zj7 (c:Call):GS:=zac (zav (zam (zaw .ne (za1 .len (zaa (zab 2) (zad))) (gC (.int 4)))) (zac (zal (gC (.bl false))) (zae)) (zae)) (zac (zan (.tup [3,4,5,6]) (zab 2)) (zac (zav (tOr (zbf (zam (zah 2 c (zaa (zab 1) (zaa (zab 3) (zad)))))) (zbf (zam (zah 2 c (zaa (zab 1) (zaa (zab 4) (zad))))))) (zac (zal (gC (.bl false))) (zae)) (zae)) (zac (zal (zcs (zah 6 c (zaa (zab 0) (zaa (zab 5) (zad)))) (zah 3 c (zaa (zab 6) (zad))))) (zae))))
def zj6 (c:Call):GS:=zac (zav (zam (zaw .ne (za1 .len (zaa (zab 2) (zad))) (gC (.int 3)))) (zac (zal (gC (.bl false))) (zae)) (zae)) (zac (zan (.tup [3,4,5]) (zab 2)) (zac (zal (zcs (zah 2 c (zaa (zab 1) (zaa (zab 3) (zad)))) (zcs (zah 2 c (zaa (zab 1) (zaa (zab 4) (zad)))) (zah 3 c (zaa (zab 5) (zad)))))) (zae)))
def zma (c:Call):GS:=zac (zav (zam (zaw .ne (za1 .len (zaa (zab 2) (zad))) (gC (.int 3)))) (zac (zal (gC (.bl false))) (zae)) (zae)) (zac (zan (.tup [3,4,5]) (zab 2)) (zac (zal (zcs (zah 2 c (zaa (zab 1) (zaa (zab 3) (zad)))) (zcs (zah 1 c (zaa (zab 0) (zaa (zab 4) (zad)))) (zah 3 c (zaa (zab 5) (zad)))))) (zae)))
def zj8 (c:Call):GS:=zac (zav (tOr (zbf (zam (zbj .tuple (zab 2)))) (zbf (zam (zab 2)))) (zac (zal (gC (.bl false))) (zae)) (zae)) (zac (zan (.one 3) (zaq (zab 2) (gC (.int 0)))) (zac (zav (tOr (zbf (zam (zbj .str (zab 3)))) (zam (znv zlz (zab 3)))) (zac (zal (gC (.bl false))) (zae)) (zae)) (zac (zan (.one 4) (zkr zlz (zab 3))) (zac (zal (zh9 4 c (zaa (zab 0) (zaa (zab 1) (zaa (zcm false true false (zab 2) (gC (.int 1)) (gC .non)) (zad)))))) (zae)))))
def zgg (c:Call):GS:=zac (zav (zbf (zam (zah 4 c (zaa (gC (.int 3)) (zaa (zab 0) (zad)))))) (zac (zal (gC (.bl false))) (zae)) (zae)) (zac (zan (.tup [1,2,3]) (zab 0)) (zac (zav (tOr (zbf (zam (zah 0 c (zaa (zab 1) (zaa (gC (.int 2)) (zaa (gC (.int 4)) (zad))))))) (zbf (zam (zah 0 c (zaa (zab 2) (zaa (gC (.int 1)) (zaa (gC (.int 2)) (zad)))))))) (zac (zal (gC (.bl false))) (zae)) (zae)) (zac (zav (tOr (zbf (zam (zbj .tuple (zab 3)))) (zbf (zam (gChn .le .le (gC (.int 1)) (za1 .len (zaa (zab 3) (zad))) (gC (.int 6)))))) (zac (zal (gC (.bl false))) (zae)) (zae)) (zac (zal (za1 .all (zaa (za8 false 1 (.one 0) (zck (zab 3)) (zbm (zah 11 c (zaa (zab 2) (zaa (zab 3) (zaa (zab 0) (zad))))))) (zad)))) (zae)))))
def zi7 (c:Call):GS:=zac (zav (zbf (zam (zah 12 c (zaa (zab 0) (zad))))) (zac (zlg 3 (zaa (gC (.str "this is no machine")) (zad))) (zae)) (zae)) (zae)
def zi8 (c:Call):GS:=zac (zan (.tup [2,3,4]) (zab 0)) (zac (zal (zcs (zah 4 c (zaa (zab 3) (zaa (zab 1) (zad)))) (za1 .all (zaa (za8 false 1 (.one 0) (zck (zab 1)) (zbm (zah 1 c (zaa (zab 3) (zaa (zab 0) (zad)))))) (zad))))) (zae))
def zgi (c:Call):GS:=zac (sEx (zah 13 c (zaa (zab 0) (zad)))) (zac (zan (.tup [1,2,3]) (zab 0)) (zac (zan (.one 4) (za2 false (zaa (zby (zad)) (zad)))) (zac (zc4 (.one 5) (zci (zab 2)) (zac (zan (.one 4) (za8 false 2 (.one 0) (zck (zab 4)) (gGen (.one 1) (zci (zab 3)) (zbm (zak false .add (zab 0) (zby (zaa (zab 1) (zad)))))))) (zae))) (zac (zal (zab 4)) (zae)))))
def zhg (c:Call):GS:=zac (zal (zah 0 c (zaa (zab 1) (zaa (gC (.int 0)) (zaa (zak false .sub (za1 .len (zaa (zaq (zab 0) (gC (.int 2))) (zad))) (gC (.int 1))) (zad)))))) (zae)
def zi6 (c:Call):GS:=zac (zav (zbf (zam (zbj .list (zab 1)))) (zac (zg8) (zae)) (zae)) (zac (zc4 (.tup [2,3]) (zen (zab 1)) (zac (zav (zbf (zam (zah 16 c (zaa (zab 0) (zaa (zab 3) (zad)))))) (zac (zg8) (zae)) (zae)) (zae))) (zae))
def zn1 (c:Call):GS:=zac (sEx (zah 13 c (zaa (zab 0) (zad)))) (zac (sEx (zah 17 c (zaa (zab 0) (zaa (zab 1) (zad))))) (zac (zav (zam (zaw .gt (za1 .len (zaa (zab 1) (zad))) (gC (.int 40)))) (zac (zg8) (zae)) (zae)) (zae)))
def b_cost (c:Call):GS:=zac (sEx (zah 18 c (zaa (zab 0) (zaa (zab 1) (zad))))) (zac (zal (zah 47 c (zaa (zab 0) (zaa (zab 1) (zad))))) (zae))
def zrd (c:Call):GS:=zac (zan (.tup [2,3,4,5]) (zab 0)) (zac (zal (zaq (zab 4) (zaq (zab 1) (zab 3)))) (zae))
def zrg (c:Call):GS:=zac (zan (.tup [2,3,4,5,6]) (zab 0)) (zac (zal (zaq (zaq (zab 5) (zaq (zab 1) (zab 3))) (zaq (zab 1) (zab 4)))) (zae))
def zt6 (c:Call):GS:=zac (zan (.tup [2,3,4,5]) (zab 0)) (zac (zal (zaq (zab 1) (zab 4))) (zae))
def zre (c:Call):GS:=zac (zan (.tup [2,3,4,5]) (zab 0)) (zac (zal (zab 4)) (zae))
def b_done (c:Call):GS:=zac (zan (.one 2) (zkr zl0 (zaq (zab 0) (gC (.int 0))))) (zac (zan (.one 3) (zaq (zab 0) (gC (.int 1)))) (zac (zal (zak false .add (zak false .add (zcm false false true (zab 1) (gC .non) (zab 3)) (zby (zaa (zh9 2 c (zaa (zab 0) (zaa (zab 1) (zad)))) (zad)))) (zcm false true false (zab 1) (zak false .add (zab 3) (gC (.int 1))) (gC .non)))) (zae)))
def zi9 (c:Call):GS:=zac (zan (.one 3) (za2 true (zaa (zab 2) (zad)))) (zac (zc4 (.one 4) (zck (zab 1)) (zac (zg9 (zab 3) (zah 24 c (zaa (zaq (zaq (zab 0) (gC (.int 2))) (zab 4)) (zaa (zaq (zab 3) (zei (gC (.int 1)))) (zad))))) (zae))) (zac (zal (zab 3)) (zae)))
def b_run (c:Call):GS:=zac (sEx (zah 18 c (zaa (zab 0) (zaa (zab 1) (zad))))) (zac (zav (zbf (zam (zah 14 c (zaa (zab 0) (zaa (zab 2) (zad)))))) (zac (zg8) (zae)) (zae)) (zac (zal (zah 25 c (zaa (zab 0) (zaa (zab 1) (zaa (zab 2) (zad)))))) (zae)))
def zg0 (c:Call):GS:=zac (sEx (zah 18 c (zaa (zab 0) (zaa (zab 1) (zad))))) (zac (zal (zah 46 c (zaa (zab 0) (zaa (zab 1) (zad))))) (zae))
def zdz (c:Call):GS:=zac (zav (zam (zaw .ge (zab 0) (zak false .pow (gC (.int 10)) (gC (.int 18))))) (zac (zal (zab 0)) (zae)) (zae)) (zac (zan (.one 2) (za2 false (zaa (gC (.int 2147483629)) (zaa (gC (.int 2147483587)) (zaa (gC (.int 2147483579)) (zaa (gC (.int 2147483563)) (zaa (gC (.int 2147483549)) (zaa (gC (.int 2147483543)) (zaa (gC (.int 2147483497)) (zaa (gC (.int 2147483489)) (zad))))))))))) (zac (zan (.one 2) (zak false .add (zab 2) (za2 false (zaa (gC (.int 2147483477)) (zaa (gC (.int 2147483423)) (zaa (gC (.int 2147483399)) (zaa (gC (.int 2147483353)) (zaa (gC (.int 2147483323)) (zad))))))))) (zac (zan (.one 3) (zak false .mod (zak false .pow (zak false .add (zak false .add (zak false .mul (zak false .mod (zab 0) (gC (.int 1000000007))) (zak false .add (zak false .mul (gC (.int 2)) (zab 1)) (gC (.int 69069)))) (zak false .mul (zab 1) (gC (.int 40503)))) (gC (.int 977))) (gC (.int 3))) (zaq (zab 2) (zak false .mod (zab 1) (gC (.int 13)))))) (zac (zan (.one 4) (zak false .mod (zak false .pow (zak false .add (zak false .add (zak false .mul (zab 3) (zak false .add (zab 1) (gC (.int 3)))) (zak false .mod (zab 0) (gC (.int 65537)))) (gC (.int 5))) (gC (.int 5))) (zaq (zab 2) (zak false .mod (zak false .add (zab 1) (gC (.int 5))) (gC (.int 13)))))) (zac (zan (.one 5) (zak false .mod (zak false .pow (zak false .add (zak false .add (zab 4) (zak false .mod (zab 3) (gC (.int 1009)))) (zab 1)) (gC (.int 3))) (zaq (zab 2) (zak false .mod (zak false .add (zab 1) (gC (.int 7))) (gC (.int 13)))))) (zac (zal (zak false .add (zak false .mul (zak false .add (zak false .mul (zab 3) (gC (.int 2147483647))) (zab 4)) (gC (.int 2147483647))) (zab 5))) (zae)))))))
def zd7 (c:Call):GS:=zac (zan (.one 1) (za1 (.list true) (zaa (zcm false false true (zab 0) (gC .non) (gC (.int 12))) (zad)))) (zac (zc4 (.tup [2,3]) (zen (zcm false true true (zab 0) (gC (.int 12)) (gC (.int 63)))) (zac (zdf (zab 1) (zak false .mod (zab 2) (gC (.int 12))) (zak false .add (zaq (zab 1) (zak false .mod (zab 2) (gC (.int 12)))) (zab 3))) (zae))) (zac (zal (za2 true (zaa (zab 1) (zaa (gC (.int 0)) (zaa (gC (.int 0)) (zad)))))) (zae)))
def zd8 (c:Call):GS:=zac (zdf (zab 0) (gC (.int 2)) (gC (.int 0))) (zac (zal (zab 0)) (zae))
def ze8 (c:Call):GS:=zac (zav (zam (zaw .lt (zaq (zab 0) (gC (.int 2))) (zab 1))) (zac (zan (.one 2) (zaq (zab 0) (gC (.int 1)))) (zac (zan (.one 3) (gC (.int 0))) (zac (zav (zam (zaw .lt (zab 2) (za1 .len (zaa (zaq (zab 0) (gC (.int 0))) (zad))))) (zac (zan (.one 3) (zaq (zaq (zab 0) (gC (.int 0))) (zab 2))) (zae)) (zac (zav (zam (zaw .gt (za1 .len (zaa (zaq (zab 0) (gC (.int 0))) (zad))) (gC (.int 0)))) (zac (zan (.one 3) (zak false .mod (zaq (zaq (zab 0) (gC (.int 0))) (zak false .mod (zak false .add (zak false .mul (zab 2) (gC (.int 5))) (gC (.int 3))) (za1 .len (zaa (zaq (zab 0) (gC (.int 0))) (zad))))) (zak false .add (zak false .pow (gC (.int 10)) (gC (.int 17))) (zab 2)))) (zae)) (zae)) (zae))) (zac (zdf (zab 0) (gC (.int 1)) (zak false .add (zab 2) (gC (.int 1)))) (zac (zdf (zab 0) (gC (.int 2)) (zah 28 c (zaa (zab 3) (zaa (zab 2) (zad))))) (zae)))))) (zae)) (zac (zan (.one 4) (zak false .mod (zaq (zab 0) (gC (.int 2))) (zab 1))) (zac (zdf (zab 0) (gC (.int 2)) (zak false .fdiv (zaq (zab 0) (gC (.int 2))) (zab 1))) (zac (zal (zab 4)) (zae))))
def zn2 (c:Call):GS:=zac (zan (.one 2) (zah 31 c (zaa (zab 0) (zaa (gC (.int 6)) (zad))))) (zac (zan (.one 3) (zah 31 c (zaa (zab 0) (zaa (zab 1) (zad))))) (zac (zan (.one 4) (zah 31 c (zaa (zab 0) (zaa (zab 1) (zad))))) (zac (zav (zam (zaw .lt (zab 2) (gC (.int 2)))) (zac (zal (za1 .tuple (zaa (za8 false 1 (.one 0) (zci (zab 1)) (zbm (zah 31 c (zaa (zab 1) (zaa (zab 2) (zad)))))) (zad)))) (zae)) (zae)) (zac (zav (zam (zaw .eq (zab 2) (gC (.int 2)))) (zac (zal (za1 .tuple (zaa (za8 false 1 (.one 0) (zci (zab 1)) (zbm (zak false .mod (zak false .add (zak false .add (zab 0) (gC (.int 1))) (zab 4)) (zab 2)))) (zad)))) (zae)) (zae)) (zac (zav (zam (zaw .eq (zab 2) (gC (.int 3)))) (zac (zal (za1 .tuple (zaa (za8 false 1 (.one 0) (zci (zab 1)) (zbm (gIte (zam (zaw .eq (zab 0) (zab 4))) (zab 5) (zab 0)))) (zad)))) (zae)) (zae)) (zac (zav (zam (zaw .eq (zab 2) (gC (.int 4)))) (zac (zal (zak false .mul (zby (zaa (zab 3) (zad))) (zab 1))) (zae)) (zae)) (zac (zan (.one 5) (zly true (zab 1))) (zac (zdf (zab 5) (zab 3) (zab 4)) (zac (zdf (zab 5) (zab 4) (zab 3)) (zac (zal (za1 .tuple (zaa (zab 5) (zad)))) (zae)))))))))))
def zmm (c:Call):GS:=zac (zan (.one 3) (zah 31 c (zaa (zab 0) (zaa (gC (.int 8)) (zad))))) (zac (zan (.one 4) (zak false .add (gC (.int 1)) (zah 31 c (zaa (zab 0) (zaa (gC (.int 3)) (zad)))))) (zac (zan (.one 5) (zah 31 c (zaa (zab 0) (zaa (zab 2) (zad))))) (zac (zan (.one 6) (zah 31 c (zaa (zab 0) (zaa (zab 2) (zad))))) (zac (zav (zam (zaw .lt (zab 3) (gC (.int 3)))) (zac (zal (zby (zaa (gC (.str "turn")) (zaa (zab 5) (zaa (zah 32 c (zaa (zab 0) (zaa (zab 1) (zad)))) (zaa (zab 4) (zad))))))) (zae)) (zae)) (zac (zav (zam (zaw .lt (zab 3) (gC (.int 5)))) (zac (zal (zby (zaa (gC (.str "move")) (zaa (zab 5) (zaa (gIte (zam (zaw .eq (zab 3) (gC (.int 3)))) (zak false .mod (zak false .add (zab 5) (gC (.int 1))) (zab 2)) (zab 6)) (zaa (zab 4) (zad))))))) (zae)) (zae)) (zac (zav (zam (zaw .eq (zab 3) (gC (.int 5)))) (zac (zal (zby (zaa (gC (.str "put")) (zaa (zab 5) (zaa (zah 31 c (zaa (zab 0) (zaa (zab 1) (zad)))) (zaa (zab 4) (zad))))))) (zae)) (zae)) (zac (zal (zby (zaa (gC (.str "join")) (zaa (zab 5) (zaa (zab 6) (zaa (za1 .tuple (zaa (za8 false 1 (.one 0) (zci (zab 1)) (zbm (zah 32 c (zaa (zab 1) (zaa (zab 2) (zad)))))) (zad))) (zaa (zab 4) (zad)))))))) (zae))))))))
def zjb (c:Call):GS:=zac (zan (.one 1) (zak false .add (gC (.int 2)) (zah 31 c (zaa (zab 0) (zaa (zak false .sub (zab 1) (gC (.int 1))) (zad)))))) (zac (zan (.one 2) (zak false .add (gC (.int 1)) (zah 31 c (zaa (zab 0) (zaa (zab 2) (zad)))))) (zac (zan (.one 4) (za2 true (zad))) (zac (zc4 (.one 5) (zci (zak false .add (gC (.int 1)) (zah 31 c (zaa (zab 0) (zaa (zab 3) (zad)))))) (zac (zan (.one 6) (zah 31 c (zaa (zab 0) (zaa (gC (.int 5)) (zad))))) (zac (zan (.one 7) (zah 33 c (zaa (zab 0) (zaa (zab 1) (zaa (zab 2) (zad)))))) (zac (zav (zfp (zam (zaw .eq (zab 6) (gC (.int 0)))) (zam (zaw .ne (zab 4) (za2 false (zad))))) (zac (zan (.one 7) (zak false .add (zcm false false true (zaq (zab 4) (zah 31 c (zaa (zab 0) (zaa (za1 .len (zaa (zab 4) (zad))) (zad))))) (gC .non) (zei (gC (.int 1)))) (zby (zaa (zaq (zab 7) (zei (gC (.int 1)))) (zad))))) (zae)) (zae)) (zac (zg9 (zab 4) (zab 7)) (zae)))))) (zac (zal (zby (zaa (zab 1) (zaa (zab 2) (zaa (za1 .tuple (zaa (zab 4) (zad))) (zad)))))) (zae)))))
def zif (c:Call):GS:=zac (zan (.one 3) (zah 31 c (zaa (zab 0) (zaa (gC (.int 4)) (zad))))) (zac (zan (.one 4) (gIte (zam (zaw .eq (zab 3) (gC (.int 0)))) (zab 2) (zah 31 c (zaa (zab 0) (zaa (zak false .add (zab 2) (gC (.int 1))) (zad)))))) (zac (zan (.one 5) (za8 false 1 (.one 0) (zci (zab 4)) (zbm (zah 31 c (zaa (zab 1) (zaa (za1 .len (zaa (zaq (zab 2) (gC (.int 2))) (zad))) (zad))))))) (zac (zav (zam (zaw .eq (zab 3) (gC (.int 1)))) (zac (zan (.one 5) (zcm false false true (zak false .mul (zcm false false true (zab 5) (gC .non) (gC (.int 2))) (zab 4)) (gC .non) (zab 4))) (zae)) (zae)) (zac (zal (zab 5)) (zae)))))
def zmb (c:Call):GS:=zac (zan (.one 3) (zak false .add (zab 1) (zab 2))) (zac (zav (zam (zaw .ne (zah 19 c (zaa (zab 0) (zaa (zab 3) (zad)))) (zak false .add (zah 19 c (zaa (zab 0) (zaa (zab 1) (zad)))) (zah 19 c (zaa (zab 0) (zaa (zab 2) (zad))))))) (zac (zal (gC (.bl false))) (zae)) (zae)) (zac (zan (.one 4) (za2 true (zad))) (zac (zc4 (.one 5) (zck (zah 15 c (zaa (zab 0) (zad)))) (zac (zan (.one 6) (zah 26 c (zaa (zab 0) (zaa (za1 (.list false) (zaa (zab 1) (zad))) (zaa (zab 5) (zad)))))) (zac (zan (.one 7) (zah 26 c (zaa (zab 0) (zaa (za1 (.list false) (zaa (zab 2) (zad))) (zaa (zaq (zab 6) (zei (gC (.int 1)))) (zad)))))) (zac (zan (.one 8) (zah 26 c (zaa (zab 0) (zaa (za1 (.list false) (zaa (zab 3) (zad))) (zaa (zab 5) (zad)))))) (zac (zav (tOr (zam (zaw .ne (zab 8) (zak false .add (zab 6) (zcm false true false (zab 7) (gC (.int 1)) (gC .non))))) (tOr (zam (zaw .ne (za1 .len (zaa (zab 8) (zad))) (zak false .add (za1 .len (zaa (zab 3) (zad))) (gC (.int 1))))) (zam (zaw .ne (zaq (zab 8) (gC (.int 0))) (zab 5))))) (zac (zal (gC (.bl false))) (zae)) (zae)) (zac (zg9 (zab 4) (zaq (zab 8) (zei (gC (.int 1))))) (zae))))))) (zac (zal (zaw .eq (za1 .tuple (zaa (zab 4) (zad))) (zah 27 c (zaa (zab 0) (zaa (zab 3) (zad)))))) (zae)))))
def b_law (c:Call):GS:=zac (zan (.one 1) (zah 29 c (zaa (zab 0) (zad)))) (zac (zc4 (.one 2) (zci (gC (.int 4))) (zac (zan (.one 3) (zah 34 c (zaa (zah 30 c (zaa (zab 1) (zad))) (zaa (gC (.int 4)) (zaa (gC (.int 2)) (zaa (gC (.int 6)) (zad))))))) (zac (zan (.one 4) (zah 35 c (zaa (zab 1) (zaa (zab 3) (zaa (gC (.int 8)) (zad)))))) (zac (zan (.one 5) (zah 35 c (zaa (zab 1) (zaa (zab 3) (zaa (gC (.int 8)) (zad)))))) (zac (zan (.one 6) (zah 31 c (zaa (zab 1) (zaa (zak false .add (za1 .len (zaa (zab 4) (zad))) (gC (.int 1))) (zad))))) (zac (zc4 (.tup [7,8]) (zck (za2 false (zaa (zby (zaa (zab 4) (zaa (zab 5) (zad)))) (zaa (zby (zaa (zcm false false true (zab 4) (gC .non) (zab 6)) (zaa (zcm false true false (zab 4) (zab 6) (gC .non)) (zad)))) (zaa (zby (zaa (za2 false (zad)) (zaa (zab 5) (zad)))) (zaa (zby (zaa (zab 5) (zaa (za2 false (zad)) (zad)))) (zad))))))) (zac (zav (zbf (zam (zah 36 c (zaa (zab 3) (zaa (zab 7) (zaa (zab 8) (zad))))))) (zac (zal (gC (.bl false))) (zae)) (zae)) (zae))) (zae))))))) (zac (zal (gC (.bl true))) (zae)))
def zb5 (c:Call):GS:=zac (zav (zam (zaw .isN (zab 1) (gC .non))) (zac (zal (zaw .isN (zab 0) (gC .non))) (zae)) (zae)) (zac (zav (tOr (zam (zbj .bool (zab 1))) (zam (zbj .bool (zab 0)))) (zac (zal (zcs (zbj .bool (zab 1)) (zcs (zbj .bool (zab 0)) (zaw .eq (zab 0) (zab 1))))) (zae)) (zae)) (zac (zav (zam (zbj .int (zab 1))) (zac (zal (zcs (zbj .int (zab 0)) (zaw .eq (zab 0) (zab 1)))) (zae)) (zae)) (zac (zav (zam (zbj .str (zab 1))) (zac (zal (zcs (zbj .str (zab 0)) (zaw .eq (zab 0) (zab 1)))) (zae)) (zae)) (zac (zav (tOr (zam (zaw .ne (zbj .tuple (zab 1)) (zbj .tuple (zab 0)))) (zam (zaw .ne (zbj .list (zab 1)) (zbj .list (zab 0))))) (zac (zal (gC (.bl false))) (zae)) (zae)) (zac (zav (zam (zaw .ne (za1 .len (zaa (zab 0) (zad))) (za1 .len (zaa (zab 1) (zad))))) (zac (zal (gC (.bl false))) (zae)) (zae)) (zac (zal (zaw .notin (gC (.bl false)) (za8 false 2 (.tup [0,1]) (zgr (zab 0) (zab 1)) (zbm (zah 40 c (zaa (zab 0) (zaa (zab 1) (zad)))))))) (zae)))))))
def zmd (c:Call):GS:=zac (zan (.one 2) (za1 (.list true) (zaa (zab 1) (zad)))) (zac (zan (.one 3) (zaq (zab 1) (zaq (zab 0) (gC (.int 1))))) (zac (zav (zam (zaw .eq (zaq (zab 0) (gC (.int 0))) (gC (.str "turn")))) (zac (zdf (zab 2) (zaq (zab 0) (gC (.int 1))) (zaq (zaq (zab 0) (gC (.int 2))) (zab 3))) (zae)) (zae)) (zac (zav (zam (zaw .eq (zaq (zab 0) (gC (.int 0))) (gC (.str "join")))) (zac (zdf (zab 2) (zaq (zab 0) (gC (.int 1))) (zaq (zaq (zaq (zab 0) (gC (.int 3))) (zab 3)) (zaq (zab 1) (zaq (zab 0) (gC (.int 2)))))) (zae)) (zae)) (zac (zav (zam (zaw .eq (zaq (zab 0) (gC (.int 0))) (gC (.str "move")))) (zac (zdf (zab 2) (zaq (zab 0) (gC (.int 1))) (zaq (zab 1) (zaq (zab 0) (gC (.int 2))))) (zae)) (zae)) (zac (zav (zam (zaw .eq (zaq (zab 0) (gC (.int 0))) (gC (.str "put")))) (zac (zdf (zab 2) (zaq (zab 0) (gC (.int 1))) (zaq (zab 0) (gC (.int 2)))) (zae)) (zae)) (zac (zal (za1 .tuple (zaa (zab 2) (zad)))) (zae)))))))
def zki (c:Call):GS:=zac (zav (zam (zaw .eq (zaq (zab 0) (gC (.int 1))) (gC (.int 1)))) (zac (zal (za8 false 1 (.one 0) (zci (zaq (zab 0) (gC (.int 0)))) (zbm (zby (zaa (zab 0) (zad)))))) (zae)) (zae)) (zac (zal (za8 false 1 (.one 0) (zci (zak false .mul (zaq (zab 0) (gC (.int 0))) (zaq (zab 0) (gC (.int 0))))) (zbm (zby (zaa (zak false .fdiv (zab 0) (zaq (zab 1) (gC (.int 0)))) (zaa (zak false .mod (zab 0) (zaq (zab 1) (gC (.int 0)))) (zad))))))) (zae))
def zml (c:Call):GS:=zac (zan (.one 2) (za2 true (zad))) (zac (zc4 (.one 3) (zck (zah 42 c (zaa (zab 0) (zad)))) (zac (zc4 (.one 4) (zck (zab 1)) (zac (zan (.one 3) (zah 41 c (zaa (zaq (zaq (zab 0) (gC (.int 2))) (zab 4)) (zaa (zab 3) (zad))))) (zae))) (zac (zg9 (zab 2) (zab 3)) (zae)))) (zac (zal (za1 .tuple (zaa (zab 2) (zad)))) (zae)))
def zka (c:Call):GS:=zac (zal (za1 .tuple (zaa (za8 false 1 (.one 0) (zck (zah 15 c (zaa (zab 0) (zad)))) (zbm (zaq (zah 25 c (zaa (zab 1) (zaa (zab 2) (zaa (zab 0) (zad))))) (zei (gC (.int 1)))))) (zad)))) (zae)
def zke (c:Call):GS:=zac (zal (za1 .sum (zaa (za8 false 1 (.one 0) (zck (zab 1)) (zbm (zaq (zaq (zaq (zab 1) (gC (.int 2))) (zab 0)) (zei (gC (.int 1)))))) (zad)))) (zae)
def zrf (c:Call):GS:=zac (zan (.one 3) (zah 27 c (zaa (zab 0) (zaa (zab 1) (zad))))) (zac (zan (.one 4) (zah 27 c (zaa (zab 0) (zaa (zab 2) (zad))))) (zac (zc4 (.tup [5,6,7]) (znt (zah 15 c (zaa (zab 0) (zad))) (zab 3) (zab 4)) (zac (zav (zam (zaw .ne (zab 6) (zab 7))) (zac (zal (zab 5)) (zae)) (zae)) (zae))) (zac (zal (gC .non)) (zae))))
def zgj (c:Call):GS:=zac (zan (.one 2) (zak false .add (za8 false 1 (.one 0) (zci (gC (.int 9))) (zbm (zah 35 c (zaa (zab 1) (zaa (zab 2) (zaa (gC (.int 3)) (zad))))))) (za2 false (zaa (za2 false (zad)) (zaa (za2 false (zaa (gC (.int 0)) (zad))) (zad)))))) (zac (zan (.one 3) (za2 true (zaa (zby (zaa (zaq (zab 2) (gC (.int 0))) (zaa (za1 (.list false) (zaa (zaq (zab 2) (gC (.int 0))) (zad))) (zad)))) (zad)))) (zac (zc4 (.tup [4,5]) (zen (zab 2)) (zac (zc4 (.one 6) (zck (zcm false false true (zab 2) (gC .non) (zab 4))) (zac (zav (zfp (zam (zaw .ne (zab 5) (zab 6))) (zam (zaw .eq (zah 44 c (zaa (zab 1) (zaa (zab 5) (zad)))) (zah 44 c (zaa (zab 1) (zaa (zab 6) (zad))))))) (zac (zg9 (zab 3) (zby (zaa (zab 5) (zaa (za1 (.list false) (zaa (zab 6) (zad))) (zad))))) (zae)) (zae)) (zae))) (zae))) (zac (zal (zab 3)) (zae))))
def zrh (c:Call):GS:=zac (zac (sEx (zah 18 c (zaa (zab 0) (zaa (zab 1) (zad))))) (zae)) (zac (zal (gC (.bl true))) (zae))
def zpr (c:Call):GS:=zac (zav (zbf (zam (zah 4 c (zaa (gC (.int 2)) (zaa (zab 1) (zad)))))) (zac (zal (gC (.bl false))) (zae)) (zae)) (zac (zan (.tup [2,3]) (zab 1)) (zac (zal (zcs (zah 52 c (zaa (zab 0) (zaa (zab 2) (zad)))) (zcs (zah 52 c (zaa (zab 0) (zaa (zab 3) (zad)))) (zaw .isN (zah 48 c (zaa (zab 0) (zaa (zab 2) (zaa (zab 3) (zad))))) (gC .non))))) (zae)))
def zl9 (c:Call):GS:=zac (sEx (zah 13 c (zaa (zab 0) (zad)))) (zac (zc4 (.tup [2,3]) (zen (zab 1)) (zac (zav (zbf (zam (zah 53 c (zaa (zab 0) (zaa (zab 3) (zad)))))) (zac (zg8) (zae)) (zae)) (zae))) (zae))
def zkf (c:Call):GS:=zac (zan (.tup [3,4,5]) (zab 2)) (zac (zav (tOr (zbf (zam (zah 0 c (zaa (zab 3) (zaa (gC (.int 0)) (zaa (za1 .len (zaa (zab 1) (zad))) (zad))))))) (zbf (zam (zah 0 c (zaa (zab 4) (zaa (gC (.int 0)) (zaa (zak false .sub (za1 .len (zaa (zab 0) (zad))) (gC (.int 1))) (zad)))))))) (zac (zal (gC .non)) (zae)) (zae)) (zac (zan (.tup [6,7]) (zaq (zab 0) (zab 4))) (zac (zav (zam (zab 5)) (zac (sPar 6 7 (zaa (zab 7) (zaa (zab 6) (zad)))) (zae)) (zae)) (zac (zan (.one 8) (zak false .add (zab 3) (za1 .len (zaa (zab 6) (zad))))) (zac (zav (zam (zaw .ne (zcm false true true (zab 1) (zab 3) (zab 8)) (zab 6))) (zac (zal (gC .non)) (zae)) (zae)) (zac (zan (.one 9) (zak true .add (zak false .add (zcm false false true (zab 1) (gC .non) (zab 3)) (zab 7)) (zcm false true false (zab 1) (zab 8) (gC .non)))) (zac (zal (gIte (zam (zaw .le (za1 .len (zaa (zab 9) (zad))) (gC (.int 40)))) (zab 9) (gC .non))) (zae))))))))
def zpq (c:Call):GS:=zac (sEx (zah 18 c (zaa (zab 0) (zaa (zab 2) (zad))))) (zac (sEx (zah 54 c (zaa (zab 0) (zaa (zab 1) (zad))))) (zac (zan (.one 4) (za1 (.list true) (zaa (zab 2) (zad)))) (zac (zc4 (.tup [5,6]) (zen (zab 3)) (zac (zan (.one 7) (zah 55 c (zaa (zab 1) (zaa (zab 4) (zaa (zab 6) (zad)))))) (zac (zav (zam (zaw .isN (zab 7) (gC .non))) (zac (zg8) (zae)) (zae)) (zac (zan (.one 4) (zab 7)) (zae))))) (zac (zal (zab 4)) (zae)))))
def zkh (c:Call):GS:=zac (zal (za8 false 2 (.tup [0,1]) (zck (zab 0)) (zbm (zby (zaa (za1 (.list false) (zaa (zab 0) (zad))) (zaa (za1 (.list false) (zaa (zab 1) (zad))) (zad))))))) (zae)
def zcy (c:Call):GS:=zac (zan (.one 2) (gC (.str " !\"#$&'()*+,-./0123456789:;<=>?@ABCDEFGHIJKLMNOPQRSTUVWXYZ[\\]^_`"))) (zac (zan (.one 2) (zak false .add (zab 2) (gC (.str "abcdefghijklmnopqrstuvwxyz{|}~\t\n")))) (zac (zan (.one 3) (za8 false 1 (.one 0) (zh8 (zab 2)) (gIf (zam (zaw .notin (zab 0) (zab 2))) (zbm (zab 0))))) (zac (zal (zaq (zab 3) (zah 31 c (zaa (zab 0) (zaa (za1 .len (zaa (zab 3) (zad))) (zad)))))) (zae))))
def zcz (c:Call):GS:=zac (zal (zah 64 c (zaa (zab 0) (zaa (gC (.str "")) (zad))))) (zae)
def zkg (c:Call):GS:=zac (zan (.one 2) (zah 31 c (zaa (zab 0) (zaa (zak false .add (za1 .len (zaa (zab 1) (zad))) (gC (.int 1))) (zad))))) (zac (zal (zak false .add (zak false .add (gSlcS false true (zab 1) (gC .non) (zab 2)) (zah 65 c (zaa (zab 0) (zad)))) (gSlcS true false (zab 1) (zak false .add (zab 2) (zah 31 c (zaa (zab 0) (zaa (gC (.int 2)) (zad))))) (gC .non)))) (zae))
def zig (c:Call):GS:=zac (zal (zcs (zbj .int (zab 0)) (gNot (zbj .bool (zab 0))))) (zae)
def zmc (c:Call):GS:=zac (zal (zcs (zah 67 c (zaa (zab 0) (zad))) (gChn .le .le (zab 1) (zab 0) (zab 2)))) (zae)
def zja (c:Call):GS:=zac (zav (tOr (zbf (zam (zbj .tuple (zab 0)))) (zam (zaw .ne (za1 .len (zaa (zab 0) (zad))) (zab 1)))) (zac (zal (gC (.bl false))) (zae)) (zae)) (zac (zal (zaw .eq (za8 false 1 (.one 0) (zck (zab 0)) (gIf (zbf (zam (zah 68 c (zaa (zab 0) (zaa (zab 3) (zaa (zab 4) (zad))))))) (zbm (gC (.int 1))))) (za2 false (zad)))) (zae))
def zjc (c:Call):GS:=zac (zav (tOr (zbf (zam (zbj .tuple (zab 0)))) (zam (zaw .notin (za1 .len (zaa (zab 0) (zad))) (zby (zaa (gC (.int 4)) (zaa (gC (.int 5)) (zad))))))) (zac (zal (gC (.bl false))) (zae)) (zae)) (zac (zav (tOr (zam (zaw .notin (zaq (zab 0) (gC (.int 0))) (zby (zaa (gC (.str "turn")) (zaa (gC (.str "join")) (zaa (gC (.str "move")) (zaa (gC (.str "put")) (zad)))))))) (zam (zaw .ne (zaw .eq (za1 .len (zaa (zab 0) (zad))) (gC (.int 5))) (zaw .eq (zaq (zab 0) (gC (.int 0))) (gC (.str "join")))))) (zac (zal (gC (.bl false))) (zae)) (zae)) (zac (zav (tOr (zbf (zam (zah 69 c (zaa (zby (zaa (zaq (zab 0) (gC (.int 1))) (zad))) (zaa (gC (.int 1)) (zaa (gC (.int 0)) (zaa (zak false .sub (zab 2) (gC (.int 1))) (zad)))))))) (zbf (zam (zah 68 c (zaa (zaq (zab 0) (zei (gC (.int 1)))) (zaa (gC (.int 1)) (zaa (gC (.int 3)) (zad)))))))) (zac (zal (gC (.bl false))) (zae)) (zae)) (zac (zav (zam (zaw .eq (zaq (zab 0) (gC (.int 0))) (gC (.str "turn")))) (zac (zal (zah 69 c (zaa (zaq (zab 0) (gC (.int 2))) (zaa (zab 1) (zaa (gC (.int 0)) (zaa (zak false .sub (zab 1) (gC (.int 1))) (zad))))))) (zae)) (zae)) (zac (zav (zam (zaw .eq (zaq (zab 0) (gC (.int 0))) (gC (.str "put")))) (zac (zal (zah 68 c (zaa (zaq (zab 0) (gC (.int 2))) (zaa (gC (.int 0)) (zaa (zak false .sub (zab 1) (gC (.int 1))) (zad)))))) (zae)) (zae)) (zac (zav (zbf (zam (zah 68 c (zaa (zaq (zab 0) (gC (.int 2))) (zaa (gC (.int 0)) (zaa (zak false .sub (zab 2) (gC (.int 1))) (zad))))))) (zac (zal (gC (.bl false))) (zae)) (zae)) (zac (zav (zam (zaw .eq (zaq (zab 0) (gC (.int 0))) (gC (.str "move")))) (zac (zal (gC (.bl true))) (zae)) (zae)) (zac (zav (tOr (zbf (zam (zbj .tuple (zaq (zab 0) (gC (.int 3)))))) (zam (zaw .ne (za1 .len (zaa (zaq (zab 0) (gC (.int 3))) (zad))) (zab 1)))) (zac (zal (gC (.bl false))) (zae)) (zae)) (zac (zal (zaw .eq (za8 false 1 (.one 0) (zck (zaq (zab 0) (gC (.int 3)))) (gIf (zbf (zam (zah 69 c (zaa (zab 0) (zaa (zab 2) (zaa (gC (.int 0)) (zaa (zak false .sub (zab 2) (gC (.int 1))) (zad)))))))) (zbm (gC (.int 1))))) (za2 false (zad)))) (zae)))))))))
def zgy (c:Call):GS:=zac (zav (tOr (zbf (zam (zbj .tuple (zab 0)))) (tOr (zam (zaw .ne (za1 .len (zaa (zab 0) (zad))) (gC (.int 3)))) (zbf (zam (zah 68 c (zaa (zaq (zab 0) (gC (.int 0))) (zaa (gC (.int 2)) (zaa (gC (.int 4)) (zad))))))))) (zac (zal (gC (.bl false))) (zae)) (zae)) (zac (zav (tOr (zbf (zam (zah 68 c (zaa (zaq (zab 0) (gC (.int 1))) (zaa (gC (.int 1)) (zaa (gC (.int 2)) (zad))))))) (tOr (zbf (zam (zbj .tuple (zaq (zab 0) (gC (.int 2)))))) (zbf (zam (gChn .le .le (gC (.int 1)) (za1 .len (zaa (zaq (zab 0) (gC (.int 2))) (zad))) (gC (.int 6))))))) (zac (zal (gC (.bl false))) (zae)) (zae)) (zac (zal (zaw .eq (za8 false 1 (.one 0) (zck (zaq (zab 0) (gC (.int 2)))) (gIf (zbf (zam (zah 70 c (zaa (zab 0) (zaa (zaq (zab 1) (gC (.int 0))) (zaa (zaq (zab 1) (gC (.int 1))) (zad))))))) (zbm (gC (.int 1))))) (za2 false (zad)))) (zae)))
def zmn (c:Call):GS:=zac (zan (.one 3) (zah 31 c (zaa (zab 0) (zaa (gC (.int 8)) (zad))))) (zac (zan (.one 4) (zah 31 c (zaa (zab 0) (zaa (gC (.int 20)) (zad))))) (zac (zan (.one 5) (zak false .sub (zah 31 c (zaa (zab 0) (zaa (gC (.int 9)) (zad)))) (gC (.int 2)))) (zac (zav (zfp (zam (zbj .tuple (zab 1))) (zfp (zam (zaw .ne (zab 1) (zby (zad)))) (zfp (zam (zaw .gt (zab 2) (gC (.int 0)))) (zam (zaw .gt (zab 4) (gC (.int 4))))))) (zac (zan (.one 6) (zah 31 c (zaa (zab 0) (zaa (za1 .len (zaa (zab 1) (zad))) (zad))))) (zac (zal (zak false .add (zak false .add (zcm false false true (zab 1) (gC .non) (zab 6)) (zby (zaa (zah 72 c (zaa (zab 0) (zaa (zaq (zab 1) (zab 6)) (zaa (zak false .sub (zab 2) (gC (.int 1))) (zad))))) (zad)))) (zcm false true false (zab 1) (zak false .add (zab 6) (gC (.int 1))) (gC .non)))) (zae))) (zae)) (zac (zan (.one 7) (za2 false (zaa (gC .non) (zaa (gC (.bl true)) (zaa (gC (.bl false)) (zaa (gC (.str "")) (zaa (gC (.str "turn")) (zaa (gC (.str "join")) (zaa (gC (.str "move")) (zaa (gC (.str "put")) (zaa (gC (.str "Turn")) (zaa (zby (zad)) (zaa (za2 false (zad)) (zaa (zak false .pow (gC (.int 10)) (gC (.int 20))) (zaa (zei (gC (.int 1))) (zaa (gC (.int 0)) (zad))))))))))))))))) (zac (zan (.one 7) (zak false .add (zab 7) (za2 false (zaa (gC (.int 1)) (zaa (gC (.int 4)) (zaa (zby (zaa (gC (.int 0)) (zad))) (zaa (za2 false (zaa (gC (.int 0)) (zad))) (zaa (gC (.str "0")) (zaa (gC (.int 7)) (zad)))))))))) (zac (zav (zam (zbj .tuple (zab 1))) (zac (zan (.one 8) (za2 false (zaa (za1 (.list false) (zaa (zab 1) (zad))) (zaa (zak false .add (zab 1) (zcm false false true (zab 1) (gC .non) (gC (.int 1)))) (zaa (zcm false false true (zab 1) (gC .non) (zei (gC (.int 1)))) (zaa (gRev false (zab 1)) (zaa (zak false .add (zab 1) (zby (zaa (zab 5) (zad)))) (zaa (zcm false true false (zab 1) (gC (.int 1)) (gC .non)) (zaa (zby (zaa (zab 1) (zad))) (zad)))))))))) (zac (zal (zaq (zak false .add (zab 8) (za2 false (zaa (zaq (zab 7) (zab 4)) (zad)))) (zab 3))) (zae))) (zae)) (zac (zav (zam (zah 67 c (zaa (zab 1) (zad)))) (zac (zal (zaq (za2 false (zaa (zak false .add (zab 1) (gC (.int 1))) (zaa (zak false .sub (zab 1) (gC (.int 1))) (zaa (zak false .sub (gC (.int 0)) (zab 1)) (zaa (zab 5) (zaa (zab 5) (zaa (zaw .eq (zab 1) (gC (.int 1))) (zaa (zak false .sub (gC (.int 3)) (zab 1)) (zaa (zaq (zab 7) (zab 4)) (zad)))))))))) (zab 3))) (zae)) (zae)) (zac (zav (zfp (zam (zbj .str (zab 1))) (zam (zaw .lt (zab 3) (gC (.int 3))))) (zac (zal (zah 66 c (zaa (zab 0) (zaa (zab 1) (zad))))) (zae)) (zae)) (zac (zal (zaq (zab 7) (zab 4))) (zae))))))))))
def zc8 (c:Call):GS:=zac (zan (.one 1) (za2 false (zaa (zbo (some 0) (zab 0)) (zaa (zbo (some 1) (zab 0)) (zaa (zbo (some 2) (zab 0)) (zad)))))) (zac (zan (.one 1) (zak false .add (zab 1) (za2 false (zaa (zbo (some 3) (zab 0)) (zaa (zbo (some 4) (zab 0)) (zaa (zbo (some 5) (zab 0)) (zad))))))) (zac (zan (.one 1) (zak false .add (zab 1) (za2 false (zaa (zbo (some 6) (zab 0)) (zaa (zbo (some 7) (zab 0)) (zaa (zbo (some 8) (zab 0)) (zad))))))) (zac (zan (.one 1) (zak false .add (zab 1) (za2 false (zaa (zbo (some 9) (zab 0)) (zaa (zbo (some 10) (zab 0)) (zaa (zbo (some 11) (zab 0)) (zad))))))) (zac (zan (.one 1) (zak false .add (zab 1) (za2 false (zaa (zbo (some 12) (zab 0)) (zaa (zbo (some 13) (zab 0)) (zad)))))) (zac (zav (tOr (zam (zaw .ne (znw (zab 1)) (gC (.int 1)))) (tOr (zbf (zam (zbo none (zab 0)))) (zbf (zam (zbo none (zab 0)))))) (zac (zal (za2 false (zaa (gC (.str "odd")) (zad)))) (zae)) (zae)) (zac (zav (zam (zaq (zab 1) (gC (.int 0)))) (zac (zal (za2 false (zaa (gC (.str "row")) (zaa (zey "place" (zab 0)) (zad))))) (zae)) (zae)) (zac (zav (zam (zaq (zab 1) (gC (.int 1)))) (zac (zal (za2 false (zaa (gC (.str "rule")) (zaa (zey "number" (zab 0)) (zad))))) (zae)) (zae)) (zac (zav (zam (zaq (zab 1) (gC (.int 2)))) (zac (zal (za2 false (zaa (gC (.str "step")) (zaa (zey "place" (zab 0)) (zad))))) (zae)) (zae)) (zac (zan (.one 2) (za2 false (zaa (gC (.str "machine")) (zaa (gC (.str "long")) (zaa (gC (.str "word")) (zaa (gC (.str "work")) (zaa (gC (.str "bound")) (zaa (gC (.str "many")) (zaa (gC (.str "place")) (zaa (gC (.str "deed")) (zaa (gC (.str "nothing")) (zaa (gC (.str "text")) (zaa (gC (.str "line")) (zad)))))))))))))) (zac (zal (za2 false (zaa (zaq (zab 2) (zak false .sub (znu (zab 1)) (gC (.int 3)))) (zad)))) (zae)))))))))))
def zgv (c:Call):GS:=zac (zan (.one 1) (zah 29 c (zaa (zab 0) (zad)))) (zac (zc4 (.one 2) (zci (gC (.int 3))) (zac (zan (.one 3) (zak false .add (gC (.int 1)) (zah 31 c (zaa (zah 30 c (zaa (zab 1) (zad))) (zaa (gC (.int 5)) (zad)))))) (zac (zan (.one 4) (zfx "" (za8 false 1 (.one 0) (zci (zab 3)) (zbm (zah 65 c (zaa (zab 2) (zad))))))) (zac (zan (.one 5) (zak false .sub (zah 31 c (zaa (zab 1) (zaa (zak false .pow (gC (.int 10)) (gC (.int 6))) (zad)))) (gC (.int 9)))) (zac (zan (.one 6) (za2 false (zaa (zfw 0 (zab 5)) (zaa (zfw 1 (zab 5)) (zaa (zfw 2 (zab 5)) (zaa (zdl 3 (zaa (zab 4) (zad))) (zaa (zdl 4 (zaa (zab 4) (zad))) (zaa (zdl 5 (zaa (zab 4) (zad))) (zad))))))))) (zac (zan (.one 6) (zak false .add (zab 6) (za2 false (zaa (zdl 6 (zaa (zab 4) (zad))) (zaa (zdl 7 (zaa (zab 4) (zad))) (zaa (zdl 8 (zaa (zab 4) (zad))) (zaa (zdl 9 (zaa (zab 4) (zad))) (zaa (zdl 10 (zaa (zab 4) (zad))) (zaa (zdl 11 (zaa (zab 4) (zad))) (zad)))))))))) (zac (zan (.one 6) (zak false .add (zab 6) (za2 false (zaa (zdl 12 (zaa (zab 4) (zad))) (zaa (zdl 13 (zaa (zab 4) (zad))) (zad)))))) (zac (zan (.one 7) (za2 false (zaa (za2 false (zaa (gC (.str "row")) (zaa (zab 5) (zad)))) (zaa (za2 false (zaa (gC (.str "rule")) (zaa (zab 5) (zad)))) (zaa (za2 false (zaa (gC (.str "step")) (zaa (zab 5) (zad)))) (zaa (za2 false (zaa (gC (.str "machine")) (zad))) (zaa (za2 false (zaa (gC (.str "long")) (zad))) (zaa (za2 false (zaa (gC (.str "word")) (zad))) (zaa (za2 false (zaa (gC (.str "work")) (zad))) (zad)))))))))) (zac (zan (.one 7) (zak false .add (zab 7) (za2 false (zaa (za2 false (zaa (gC (.str "bound")) (zad))) (zaa (za2 false (zaa (gC (.str "many")) (zad))) (zaa (za2 false (zaa (gC (.str "place")) (zad))) (zaa (za2 false (zaa (gC (.str "deed")) (zad))) (zaa (za2 false (zaa (gC (.str "nothing")) (zad))) (zaa (za2 false (zaa (gC (.str "text")) (zad))) (zaa (za2 false (zaa (gC (.str "line")) (zad))) (zad))))))))))) (zac (zav (zbf (zam (zah 40 c (zaa (za8 false 1 (.one 0) (zck (zab 6)) (zbm (zah 75 c (zaa (zab 0) (zad))))) (zaa (zab 7) (zad)))))) (zac (zal (gC (.bl false))) (zae)) (zae)) (zae))))))))))) (zac (zal (gC (.bl true))) (zae)))
end LD
namespace LD
open PySem
theorem okE.mono {α:Type}{r:Res α}{k k':α->Mem->Prop} (h:okE r k) (m:∀ a M,k a M->k' a M):okE r k':=zbv h m
@[simp] theorem zaz {α β:Type}{r:Res α}{f:α->Mem->Res β}{k:β->Mem->Prop}:okE (r.bind f) k↔okE r fun a M=>okE (f a M) k:=by cases r<;>rfl
@[simp] theorem zhz {α:Type}{a:α}{M:Mem}{k:α->Mem->Prop}:okE (.ok a M) k↔k a M:=Iff.rfl
@[simp] theorem ok_bad {α:Type}{k:α->Mem->Prop}:okE (.bad:Res α) k↔False:=Iff.rfl
@[simp] theorem zh0 {α:Type}{M:Mem}{o:Option α}{k:α->Mem->Prop}:okE (ofO M o) k↔∃ a,o=some a /\ k a M:=by cases o<;>simp [ofO]
theorem zko {α:Type}{r:Res α}{k:α->Mem->Prop}:okE r k↔∃ a M,r=.ok a M /\ k a M:=by
  cases r with
  | ok a M=>exact ⟨fun h=>⟨a,M,rfl,h⟩,fun ⟨_,_,e,h⟩=>by cases e;exact h⟩
  | err=>simp [okE]
  | bad=>simp [okE]
theorem zt5 {x y:D}{M:Mem}{v:Bool} (px:zao 64 (view M x)=true) (py:zao 64 (view M y)=true) (h:zba (view M x) (view M y)=v):zcv .eq x y M=some v:=by
  have e:eqD (view M x) (view M y)=some v:=by unfold eqD;rw [px,py,h];rfl
  show eqM M x y=_
  unfold eqM;rw [e]
section
variable {ρ:Env}{M:Mem}{a b d lo hi:GE}{s:GA}{t u:GT}{k:D->Mem->Prop}{c:Call}
@[simp] theorem zd5 {i:Nat}:okE (zab i ρ M) k↔∃ d,ρ[i]?.getD none=some d /\ k d M:=by simp [zab]
@[simp] theorem e_c {d:D}:okE (gC d ρ M) k↔k d M:=Iff.rfl
@[simp] theorem znx {m:Bool}{o:Bin}:okE (zak m o a b ρ M) k↔okE (a ρ M) fun x M=>okE (b ρ M) fun y M=>okE (zdc m o x y M) k:=by simp [zak]
@[simp] theorem e_cmp {o:Cmp}:okE (zaw o a b ρ M) k↔okE (a ρ M) fun x M=>okE (b ρ M) fun y M=>∃ v,zcv o x y M=some v /\ k (.bl v) M:=by simp [zaw]
@[simp] theorem e_chn {o o':Cmp}:okE (gChn o o' a b d ρ M) k↔okE (a ρ M) fun x M=>okE (b ρ M) fun y M=>∃ v,zcv o x y M=some v /\ if v=true then okE (d ρ M) fun z M=>∃ v,zcv o' y z M=some v /\ k (.bl v) M else k (.bl false) M:=by
  simp only [gChn,zaz,zh0]
  refine iff_of_eq ?_
  congr 1;funext x M;congr 1;funext y M;refine propext (exists_congr fun v=>and_congr_right fun _=>?_)
  cases v<;>simp
@[simp] theorem e_neg:okE (zei a ρ M) k↔okE (a ρ M) fun x M=>∃ i,x=.int i /\ k (.int (-i)) M:=by
  simp only [zei,zaz];refine iff_of_eq ?_;congr 1;funext x M;cases x<;>simp
@[simp] theorem e_and:okE (zcs a b ρ M) k↔okE (a ρ M) fun x M=>∃ v,x=.bl v /\ if v=true then okE (b ρ M) k else k (.bl false) M:=by
  simp only [zcs,zaz];refine iff_of_eq ?_;congr 1;funext x M;cases x<;>simp
  rename_i v;cases v<;>simp
@[simp] theorem e_or:okE (gOr a b ρ M) k↔okE (a ρ M) fun x M=>∃ v,x=.bl v /\ if v=true then k (.bl true) M else okE (b ρ M) k:=by
  simp only [gOr,zaz];refine iff_of_eq ?_;congr 1;funext x M;cases x<;>simp
  rename_i v;cases v<;>simp
@[simp] theorem e_not:okE (gNot a ρ M) k↔okE (a ρ M) fun x M=>∃ v,x=.bl v /\ k (.bl (!v)) M:=by
  simp only [gNot,zaz];refine iff_of_eq ?_;congr 1;funext x M;cases x<;>simp
@[simp] theorem e_ite:okE (gIte t a b ρ M) k↔okE (t ρ M) fun v M=>if v=true then okE (a ρ M) k else okE (b ρ M) k:=by
  simp only [gIte,zaz];refine iff_of_eq ?_;congr 1;funext v M;cases v<;>simp
@[simp] theorem e_idx:okE (zaq a b ρ M) k↔okE (a ρ M) fun x M=>okE (b ρ M) fun y M=>∃ d,zf7 x y M=some d /\ k d M:=by simp [zaq]
@[simp] theorem e_slc {m hl hh:Bool}:okE (zcm m hl hh a lo hi ρ M) k↔okE (a ρ M) fun x M=>okE (lo ρ M) fun l M=>okE (hi ρ M) fun h M=>zc5 hl l=true /\ zc5 hh h=true /\ okE (slcD m x l h M) k:=by
  simp only [zcm,zaz]
  refine iff_of_eq ?_
  congr 1;funext x M;congr 1;funext l M;congr 1;funext h M
  cases zc5 hl l<;>cases zc5 hh h<;>simp
@[simp] theorem zfy {k:List D->Mem->Prop}:okE (zad ρ M) k↔k [] M:=Iff.rfl
@[simp] theorem zeb {k:List D->Mem->Prop}:okE (zaa a s ρ M) k↔okE (a ρ M) fun x M=>okE (s ρ M) fun xs M=>k (x::xs) M:=by simp [zaa]
@[simp] theorem e_tup:okE (zby s ρ M) k↔okE (s ρ M) fun xs M=>xs.length≤sz /\ k (.tup xs) M:=by
  simp only [zby,zaz];refine iff_of_eq ?_;congr 1;funext xs M;unfold zh3;split<;>simp [*]
theorem zln {m:Bool}{xs:List D}:okE (zbh m xs M) k↔xs.length≤sz /\ if m=true then k (.cell M.length) (M++[xs]) else k (.lst xs) M:=by
  unfold zbh;cases m<;>split<;>simp [*]
@[simp] theorem zfg {xs:List D}:okE (zbh false xs M) k↔xs.length≤sz /\ k (.lst xs) M:=by simp [zln]
@[simp] theorem ztc {xs:List D}:okE (zbh true xs M) k↔xs.length≤sz /\ k (.cell M.length) (M++[xs]):=by simp [zln]
@[simp] theorem e_lst {m:Bool}:okE (za2 m s ρ M) k↔okE (s ρ M) fun xs M=>okE (zbh m xs M) k:=by simp [za2]
@[simp] theorem zec {f:Nat}:okE (zah f c s ρ M) k↔okE (s ρ M) fun ds M=>okE (c f ds M) k:=by simp [zah]
@[simp] theorem e_callv {i:Nat}:okE (zh9 i c s ρ M) k↔∃ f,ρ[i]?.getD none=some (.fn f) /\ okE (s ρ M) fun ds M=>okE (c f ds M) k:=by
  unfold zh9
  cases e:ρ[i]?.getD none with
  | none=>simp
  | some d=>cases d<;>simp
@[simp] theorem e_blt {f:Blt}:okE (za1 f s ρ M) k↔okE (s ρ M) fun ds M=>okE (zdg f ds M) k:=by simp [za1]
@[simp] theorem e_inst {t:Ty}:okE (zbj t a ρ M) k↔okE (a ρ M) fun x M=>∃ v,zfu t x=some v /\ k (.bl v) M:=by simp [zbj]
@[simp] theorem e_dget {fs:List (Str×Nat)}:okE (zkr fs a ρ M) k↔okE (a ρ M) fun x M=>∃ y f,x=.str y /\ fs.lookup y=some f /\ k (.fn f) M:=by
  simp only [zkr,zaz];refine iff_of_eq ?_;congr 1;funext x M;cases x<;>simp
  exact ⟨fun ⟨_,⟨f,h,e⟩,q⟩=>⟨f,h,e ▸ q⟩,fun ⟨f,h,q⟩=>⟨_,⟨f,h,rfl⟩,q⟩⟩
@[simp] theorem e_dnot {fs:List (Str×Nat)}:okE (znv fs a ρ M) k↔okE (a ρ M) fun x M=>∃ y,x=.str y /\ k (.bl (!(fs.lookup y).isSome)) M:=by
  simp only [znv,zaz];refine iff_of_eq ?_;congr 1;funext x M;cases x<;>simp
@[simp] theorem e_listR {m:Bool}:okE (zly m a ρ M) k↔okE (a ρ M) fun x M=>∃ n,x=.int n /\ (-(2 ^ 62)≤n /\ n < 2 ^ 20) /\ okE (zbh m ((List.range n.toNat).map fun (k:Nat)=>D.int (k:Int)) M) k:=by
  simp only [zly,zaz];refine iff_of_eq ?_;congr 1;funext x M
  cases x<;>simp
  rename_i n
  split<;>simp [*]
variable {kb:Bool->Mem->Prop}
@[simp] theorem t_tru:okE (zam a ρ M) kb↔okE (a ρ M) fun x M=>∃ v,zf4 M x=some v /\ kb v M:=by simp [zam]
@[simp] theorem t_and:okE (zfp t u ρ M) kb↔okE (t ρ M) fun v M=>if v=true then okE (u ρ M) kb else kb false M:=by
  simp only [zfp,zaz];refine iff_of_eq ?_;congr 1;funext v M;cases v<;>simp
@[simp] theorem t_or:okE (tOr t u ρ M) kb↔okE (t ρ M) fun v M=>if v=true then kb true M else okE (u ρ M) kb:=by
  simp only [tOr,zaz];refine iff_of_eq ?_;congr 1;funext v M;cases v<;>simp
@[simp] theorem t_not:okE (zbf t ρ M) kb↔okE (t ρ M) fun v M=>kb (!v) M:=by simp [zbf]
variable {kf:Fl->Mem->Prop}{sa sb:GS}
def zhl (b:GS) (k:Fl->Mem->Prop):Fl->Mem->Prop
  | .next ρ,M=>okE (b ρ M) k
  | .ret d,M=>k (.ret d) M
  | .exc x ρ,M=>k (.exc x ρ) M
@[simp] theorem then_exc {b:GS}{x:D}:zhl b kf (.exc x ρ) M↔kf (.exc x ρ) M:=Iff.rfl
@[simp] theorem zd2 {b:GS}:zhl b kf (.next ρ) M↔okE (b ρ M) kf:=Iff.rfl
@[simp] theorem then_ret {b:GS}{d:D}:zhl b kf (.ret d) M↔kf (.ret d) M:=Iff.rfl
@[simp] theorem zc3:okE (zac sa sb ρ M) kf↔okE (sa ρ M) (zhl sb kf):=by
  simp only [zac,zaz];refine iff_of_eq ?_;congr 1;funext fl M;cases fl<;>rfl
@[simp] theorem s_nil_:okE (zae ρ M) kf↔kf (.next ρ) M:=Iff.rfl
@[simp] theorem zf5 {i:Nat}:okE (zan (.one i) a ρ M) kf↔okE (a ρ M) fun x M=>kf (.next (ρ.set i (some x))) M:=by simp [zan,zcj]
@[simp] theorem s_asgt {l:List Nat}:okE (zan (.tup l) a ρ M) kf↔okE (a ρ M) fun x M=>∃ ds ρ1,x=.tup ds /\ zfd l ds ρ=some ρ1 /\ kf (.next ρ1) M:=by
  simp only [zan,zaz,zh0,zhz];refine iff_of_eq ?_;congr 1;funext x M;cases x<;>simp [zcj]
@[simp] theorem s_put_:okE (zdf a b d ρ M) kf↔okE (d ρ M) fun z M=>okE (a ρ M) fun x M=>okE (b ρ M) fun y M=>∃ j n ds i,x=.cell j /\ y=.int n /\ M[j]?=some ds /\ ixN ds.length n=some i /\ kf (.next ρ) (M.set j (ds.set i z)):=by
  simp only [zdf,zaz]
  refine iff_of_eq ?_
  congr 1;funext z M;congr 1;funext x M;congr 1;funext y M
  cases x with
  | cell j =>
    cases y with
    | int n =>
      cases e:M[j]? with
      | none=>simp [e]
      | some ds =>
        cases e2:ixN ds.length n with
        | none=>simp [e,e2]
        | some i=>simp [e,e2]
    | _=>simp
  | _=>simp
@[simp] theorem s_app_:okE (zg9 a d ρ M) kf↔okE (a ρ M) fun x M=>okE (d ρ M) fun z M=>∃ j ds,x=.cell j /\ M[j]?=some ds /\ ds.length < sz /\ kf (.next ρ) (M.set j (ds++[z])):=by
  simp only [zg9,zaz]
  refine iff_of_eq ?_
  congr 1;funext x M;congr 1;funext z M
  cases x<;>simp
  rename_i j
  cases e:M[j]? with
  | none=>simp
  | some ds=>by_cases h:ds.length < sz<;>simp [h]
@[simp] theorem s_ex_:okE (sEx a ρ M) kf↔okE (a ρ M) fun _ M=>kf (.next ρ) M:=by simp [sEx]
@[simp] theorem zhp:okE (zal a ρ M) kf↔okE (a ρ M) fun x M=>kf (.ret x) M:=by simp [zal]
@[simp] theorem s_retN_:okE (sRetN ρ M) kf↔kf (.ret .non) M:=Iff.rfl
@[simp] theorem s_pass_:okE (sPass ρ M) kf↔kf (.next ρ) M:=Iff.rfl
@[simp] theorem s_bad_:okE (zg8 ρ M) kf↔False:=Iff.rfl
@[simp] theorem zoy:okE (zav t sa sb ρ M) kf↔okE (t ρ M) fun v M=>if v=true then okE (sa ρ M) kf else okE (sb ρ M) kf:=by
  simp only [zav,zaz];refine iff_of_eq ?_;congr 1;funext v M;cases v<;>simp
variable {kw:Walk->Mem->Prop}
@[simp] theorem zok:okE (zci a ρ M) kw↔okE (a ρ M) fun x M=>∃ n,x=.int n /\ (-(2 ^ 62)≤n /\ n < 2 ^ 62) /\ kw (fun _=>some ((List.range n.toNat).map fun (k:Nat)=>D.int (k:Int))) M:=by
  simp only [zci,zaz];refine iff_of_eq ?_;congr 1;funext x M;cases x<;>simp
  rename_i n
  split<;>simp [*]
@[simp] theorem w_seq:okE (zck a ρ M) kw↔okE (a ρ M) fun x M=>zcu x=true /\ kw (fun M=>zbr M x) M:=by
  simp only [zck,zaz];refine iff_of_eq ?_;congr 1;funext x M;cases x<;>simp [zcu]<;>rfl
@[simp] theorem w_enum:okE (zen a ρ M) kw↔okE (a ρ M) fun x M=>(zcu x&&zd6 x)=true /\ kw (fun M=>(zbr M x).map (zdb 0)) M:=by
  simp only [zen,zaz];refine iff_of_eq ?_;congr 1;funext x M;cases x<;>simp [zcu,zd6]<;>rfl
@[simp] theorem w_zip2:okE (zgr a b ρ M) kw↔okE (a ρ M) fun x M=>okE (b ρ M) fun y M=>(zcu x&&zcu y)=true /\ kw (zgp x y) M:=by
  simp only [zgr,zaz];refine iff_of_eq ?_;congr 1;funext x M;congr 1;funext y M;split<;>simp [*]
def zhe (k:D->Mem->Prop):Fl->Mem->Prop
  | .ret d,M=>k d M
  | .next _,M=>k .non M
  | .exc _ _,_=>False
@[simp] theorem fin_ret {d:D}:zhe k (.ret d) M↔k d M:=Iff.rfl
@[simp] theorem fin_next:zhe k (.next ρ) M↔k .non M:=Iff.rfl
theorem zc7 {P:Nat->Option Df}{n f:Nat}{d:Df}{ds:List D} (e:P f=some d) (hl:ds.length=d.params) (h:okE (d.body (za3 P n) (ds.map some++List.replicate (d.slots - ds.length) none) M) (zhe k)):okE (za3 P (n+1) f ds M) k:=by
  show okE (match P f with | none=>Res.bad | some d=>zeg (za3 P n) d ds M) k
  rw [e]
  show okE (zeg (za3 P n) d ds M) k
  unfold zeg
  rw [if_pos hl]
  revert h
  cases d.body (za3 P n) (ds.map some++List.replicate (d.slots - ds.length) none) M with
  | ok fl M=>cases fl<;>exact id
  | err=>exact id
  | bad=>exact id
@[simp] theorem okX_ok {α:Type}{a:α}{k:α->Mem->Prop}{kx:D->Mem->Prop}:okX (.ok a M) k kx↔k a M:=Iff.rfl
@[simp] theorem okX_err {α:Type}{x:D}{k:α->Mem->Prop}{kx:D->Mem->Prop}:okX (.err x M:Res α) k kx↔kx x M:=Iff.rfl
def finX (k kx:D->Mem->Prop):Fl->Mem->Prop
  | .ret d,M=>k d M
  | .next _,M=>k .non M
  | .exc x _,M=>kx x M
@[simp] theorem fx_ret {d:D}{kx:D->Mem->Prop}:finX k kx (.ret d) M↔k d M:=Iff.rfl
@[simp] theorem fx_next {kx:D->Mem->Prop}:finX k kx (.next ρ) M↔k .non M:=Iff.rfl
@[simp] theorem fx_exc {x:D}{kx:D->Mem->Prop}:finX k kx (.exc x ρ) M↔kx x M:=Iff.rfl
@[simp] theorem x_callX {f:Nat}{kx:D->Mem->Prop}:okX (zpe f c s ρ M) k kx↔okE (s ρ M) fun ds M=>okX (c f ds M) k kx:=by
  unfold zpe
  cases s ρ M<;>rfl
@[simp] theorem s_exX_:okE (sExX a ρ M) kf↔okX (a ρ M) (fun _ M=>kf (.next ρ) M) (fun x M=>kf (.exc x ρ) M):=by
  unfold sExX
  cases a ρ M<;>rfl
@[simp] theorem s_asgX1 {i:Nat}:okE (sAsgX (.one i) a ρ M) kf↔okX (a ρ M) (fun x M=>kf (.next (ρ.set i (some x))) M) (fun x M=>kf (.exc x ρ) M):=by
  unfold sAsgX
  cases a ρ M<;>rfl
@[simp] theorem s_retX_:okE (sRetX a ρ M) kf↔okX (a ρ M) (fun x M=>kf (.ret x) M) (fun x M=>kf (.exc x ρ) M):=by
  unfold sRetX
  cases a ρ M<;>rfl
@[simp] theorem s_raise_ {i:Nat}:okE (zlg i s ρ M) kf↔okE (s ρ M) fun ds M=>ds.length≤sz /\ kf (.exc (.exc i none) ρ) M:=by
  unfold zlg
  cases s ρ M with
  | ok ds M1=>by_cases h:ds.length≤sz<;>simp [h]
  | err=>exact Iff.rfl
  | bad=>exact Iff.rfl
def endK (i:Nat) (kf:Fl->Mem->Prop):Fl->Mem->Prop
  | .next ρ,M=>kf (.next (ρ.set i none)) M
  | .ret d,M=>kf (.ret d) M
  | .exc _ _,_=>False
def tryK (i:Nat) (h:GS) (kf:Fl->Mem->Prop):Fl->Mem->Prop
  | .exc x ρ,M=>okE (h (ρ.set i (some x)) M) (endK i kf)
  | fl,M=>kf fl M
@[simp] theorem s_try_ {i:Nat}{h:GS}:okE (sTry sa i h ρ M) kf↔okE (sa ρ M) (tryK i h kf):=by
  simp only [sTry,zaz];refine iff_of_eq ?_;congr 1;funext fl M
  cases fl with
  | exc x ρ =>
    show okE ((h (ρ.set i (some x)) M).bind (xEnd i)) kf=okE (h (ρ.set i (some x)) M) (endK i kf)
    simp only [zaz];congr 1;funext fl M;cases fl<;>rfl
  | next ρ=>rfl
  | ret d=>rfl
@[simp] theorem e_instX {o:Option Nat}:okE (zbo o a ρ M) k↔okE (a ρ M) fun x M=>∃ i p,x=.exc i p /\ k (.bl (match o with | some j=>j==i | none=>true)) M:=by
  simp only [zbo,zaz];refine iff_of_eq ?_;congr 1;funext x M
  cases x with
  | exc i p=>exact propext ⟨fun h=>⟨_,_,rfl,h⟩,fun ⟨_,_,e,h⟩=>by cases e;exact h⟩
  | _=>simp
theorem znq {α:Type} (f:α->D->Mem->Res α) (ds:List D):∀ (m i:Nat) (a:α) (M:Mem),ds.length - i < m->i≤ds.length->zda f (fun _=>some ds) m i a M=eachR f (ds.drop i) a M
  | 0,i,a,M,h,_=>absurd h (Nat.not_lt_zero _)
  | m + 1, i, a, M, h, hi => by
    show (match ds[i]? with | none=>Res.ok a M | some d=>(f a d M).bind (zda f (fun _=>some ds) m (i+1)))=_
    by_cases hlt:i < ds.length
    · rw [List.drop_eq_getElem_cons hlt,List.getElem?_eq_getElem hlt]
      show (f a ds[i] M).bind _=(f a ds[i] M).bind _
      congr 1
      funext a M
      exact znq f ds m (i+1) a M (by omega) hlt
    · have e:i=ds.length:=by omega
      subst e
      rw [List.getElem?_eq_none (Nat.le_refl _),List.drop_length]
      rfl
theorem zg4 {α:Type}{f:α->D->Mem->Res α}{w:Walk}{ds:List D}{a:α}{k:α->Mem->Prop} (I:Nat->α->Mem->Prop) (hw:∀ i a M,I i a M->w M=some ds) (h0:I 0 a M)
    (hs:∀ i d a M,ds[i]?=some d->I i a M->okE (f a d M) (I (i+1))) (hk:∀ a M,I ds.length a M->k a M):okE (zdh f w a M) k:=by
  have key:∀ (m i:Nat) (a:α) (M:Mem),ds.length - i < m->i≤ds.length->I i a M->okE (zda f w m i a M) k:=by
    intro m
    induction m with
    | zero=>intro i a M h;exact absurd h (Nat.not_lt_zero _)
    | succ m ih =>
      intro i a M h hi hI
      show okE (match w M with | none=>Res.bad | some ds=>match ds[i]? with | none=>Res.ok a M | some d=>(f a d M).bind (zda f w m (i+1))) k
      rw [hw i a M hI]
      dsimp only
      by_cases hlt:i < ds.length
      · rw [List.getElem?_eq_getElem hlt]
        simp only [zaz]
        exact zbv (hs i ds[i] a M (List.getElem?_eq_getElem hlt) hI) fun a' M' h'=>ih (i+1) a' M' (by omega) hlt h'
      · have e:i=ds.length:=by omega
        subst e
        rw [List.getElem?_eq_none (Nat.le_refl _)]
        exact hk a M hI
  unfold zdh
  rw [hw 0 a M h0]
  exact key _ 0 a M (by simp) (Nat.zero_le _) h0
theorem zmz {t:Tgt}{w:Walk}{gb:GS}{ds:List D} (I:Nat->Env->Mem->Prop) (hw:∀ i ρ M,I i ρ M->w M=some ds) (h0:I 0 ρ M)
    (hs:∀ i d ρ M,ds[i]?=some d->I i ρ M->∃ ρ1,zcj t d ρ=some ρ1 /\ okE (gb ρ1 M) fun fl M=>∃ ρ',fl=.next ρ' /\ I (i+1) ρ' M) (hk:∀ ρ M,I ds.length ρ M->kf (.next ρ) M):okE (zdh (zel t gb) w (.next ρ) M) kf:=by
  refine zg4 (fun i fl M=>∃ ρ,fl=.next ρ /\ I i ρ M) (fun i fl M ⟨ρ,_,h⟩=>hw i ρ M h) ⟨ρ,rfl,h0⟩ ?_ ?_
  · rintro i d fl M hd ⟨ρ,rfl,hI⟩
    obtain ⟨ρ1,e,h⟩:=hs i d ρ M hd hI
    simp only [zel,zaz,zh0,e]
    exact ⟨ρ1,rfl,h⟩
  · rintro fl M ⟨ρ,rfl,hI⟩
    exact hk ρ M hI
@[simp] theorem s_for_ {tg:Tgt}{w:GW}{gb:GS}:okE (zc4 tg w gb ρ M) kf↔okE (w ρ M) fun w M=>okE (zdh (zel tg gb) w (.next ρ) M) kf:=by simp [zc4]
@[simp] theorem zl2 {m:Bool}{n:Nat}{tg:Tgt}{w:GW}{g:GB}:okE (za8 m n tg w g ρ M) k↔okE (w ρ M) fun w M=>okE (zdh (zdp tg g (List.replicate n none++ρ)) w [] M) fun acc M=>okE (zbh m acc M) k:=by simp [za8]
variable {kl:List D->Mem->Prop}
@[simp] theorem b_fin {ge:GE}{acc:List D}:okE (zbm ge ρ acc M) kl↔okE (ge ρ M) fun x M=>acc.length < sz /\ kl (acc++[x]) M:=by
  simp only [zbm,zaz];refine iff_of_eq ?_;congr 1;funext x M;split<;>simp [*]
theorem comp_map {tg:Tgt}{w:Walk}{ge:GE}{ds:List D}{ρ0:Env} (I:Nat->List D->Mem->Prop) (hz:ds.length≤sz) (hw:∀ i acc M,I i acc M->w M=some ds) (h0:I 0 [] M)
    (hs:∀ i d acc M,ds[i]?=some d->acc.length=i->I i acc M->∃ ρ1,zcj tg d ρ0=some ρ1 /\ okE (ge ρ1 M) fun x M=>I (i+1) (acc++[x]) M) (hk:∀ acc M,acc.length=ds.length->I ds.length acc M->kl acc M) :
    okE (zdh (zdp tg (zbm ge) ρ0) w [] M) kl:=by
  refine zg4 (fun i acc M=>acc.length=i /\ I i acc M) (fun i acc M h=>hw i acc M h.2) ⟨rfl,h0⟩ ?_ (fun acc M h=>hk acc M h.1 h.2)
  rintro i d acc M hd ⟨hl,hI⟩
  obtain ⟨ρ1,e,h⟩:=hs i d acc M hd hl hI
  have hi:i < ds.length:=(List.getElem?_eq_some_iff.mp hd).1
  simp only [zdp,zaz,zh0,e,b_fin]
  exact ⟨ρ1,rfl,zbv h fun x M h=>⟨by omega,by simp [hl],h⟩⟩
end
theorem zbs {t:GT}{A rest:GS}{ρ:Env}{M:Mem}{k:Fl->Mem->Prop} (ht:t ρ M=.ok false M) (h:okE (rest ρ M) k):okE (zac (zav t A zae) rest ρ M) k:=by
  simp only [zc3,zoy]
  rw [ht]
  exact h
theorem zfj {t:GT}{e:GE}{rest:GS}{ρ:Env}{M:Mem}{v:D}{k:Fl->Mem->Prop} (ht:t ρ M=.ok true M) (he:e ρ M=.ok v M) (h:k (.ret v) M):okE (zac (zav t (zac (zal e) zae) zae) rest ρ M) k:=by
  simp only [zc3,zoy,zhp]
  rw [ht]
  show okE (e ρ M) _
  rw [he]
  exact h
theorem ok_rfl {r:Res Fl}{v:D}{M:Mem} (e:r=.ok (.ret v) M):okE r (zhe fun x M'=>x=v /\ M'=M):=by rw [e];exact ⟨rfl,rfl⟩
end LD
namespace LD
open PySem
structure zgo (P:Nat->Option Df):Prop where
  is_between:P 0=some ⟨3,3,zgh⟩
  is_word:P 1=some ⟨2,2,zj4⟩
  is_place:P 2=some ⟨2,2,zie⟩
  is_cost:P 3=some ⟨1,1,zj9⟩
  is_tuple_of:P 4=some ⟨2,2,zf1⟩
  is_table:P 5=some ⟨2,2,zid⟩
  is_double_table:P 6=some ⟨2,2,zek⟩
  is_turn:P 7=some ⟨3,6,zj5⟩
  is_join:P 8=some ⟨3,7,zj7⟩
  is_move:P 9=some ⟨3,6,zj6⟩
  is_put:P 10=some ⟨3,6,zma⟩
  is_deed:P 11=some ⟨3,5,zj8⟩
  is_machine:P 12=some ⟨1,4,zgg⟩
  need_machine:P 13=some ⟨1,1,zi7⟩
  is_deed_number:P 16=some ⟨2,2,zhg⟩
  need_numbers:P 17=some ⟨2,4,zi6⟩
  need_row:P 18=some ⟨2,2,zn1⟩
  turned:P 20=some ⟨2,6,zrd⟩
  joined:P 21=some ⟨2,7,zrg⟩
  moved:P 22=some ⟨2,6,zt6⟩
  put_in:P 23=some ⟨2,6,zre⟩
  done:P 24=some ⟨2,4,b_done⟩
  all_standing:P 25=some ⟨3,5,zi9⟩
structure HasP0 (P:Nat->Option Df):Prop where
  law_spread:P 28=some ⟨2,6,zdz⟩
  law_open:P 29=some ⟨1,4,zd7⟩
  law_anew:P 30=some ⟨1,1,zd8⟩
  law_take:P 31=some ⟨2,5,ze8⟩
structure HasP (P:Nat->Option Df):Prop extends HasP0 P where
  law_tab:P 32=some ⟨2,6,zn2⟩
  law_deed:P 33=some ⟨3,7,zmm⟩
  law_machine:P 34=some ⟨4,8,zjb⟩
instance coeHasP {P:Nat->Option Df}:Coe (HasP P) (HasP0 P):=⟨HasP.toHasP0⟩
@[simp] theorem env_z {d:Option D}{r:Env}:(d::r)[0]?.getD none=d:=rfl
section
variable {M:Mem}{k:D->Mem->Prop}
theorem zeu {α:Type}{c:Prop} [Decidable c] {r:Res α}{k:α->Mem->Prop}:okE (if c then r else .bad) k↔c /\ okE r k:=by split<;>simp [*]
@[simp] theorem zgl {m:Bool}{i j:Int}:okE (zdc m .add (.int i) (.int j) M) k↔k (.int (i+j)) M:=Iff.rfl
@[simp] theorem sub_ii {m:Bool}{i j:Int}:okE (zdc m .sub (.int i) (.int j) M) k↔k (.int (i - j)) M:=Iff.rfl
@[simp] theorem zlr {m:Bool}{i j:Int}:okE (zdc m .mul (.int i) (.int j) M) k↔((-(2 ^ 64) < i /\ i < 2 ^ 64) \/ (-(2 ^ 64) < j /\ j < 2 ^ 64)) /\ k (.int (i * j)) M:=zeu
@[simp] theorem zh2 {m:Bool}{i j:Int}:okE (zdc m .mod (.int i) (.int j) M) k↔0 < j /\ k (.int (i % j)) M:=zeu
@[simp] theorem fdiv_ii {m:Bool}{i j:Int}:okE (zdc m .fdiv (.int i) (.int j) M) k↔(0 < j /\ j < 1073741824) /\ k (.int (i / j)) M:=zeu
@[simp] theorem zll {m:Bool}{i j:Int}:okE (zdc m .pow (.int i) (.int j) M) k↔(0≤j /\ j≤1000000 /\ i.natAbs < 2 ^ 64) /\ k (.int (i ^ j.toNat)) M:=zeu
@[simp] theorem add_tt {m:Bool}{x y:List D}:okE (zdc m .add (.tup x) (.tup y) M) k↔(x++y).length≤sz /\ k (.tup (x++y)) M:=by
  show okE (zh3 _ _) k↔_
  unfold zh3;exact zeu
@[simp] theorem add_ll {m:Bool}{x y:List D}:okE (zdc m .add (.lst x) (.lst y) M) k↔okE (zbh m (x++y) M) k:=Iff.rfl
@[simp] theorem v_c_lt {i j:Int}:zcv .lt (.int i) (.int j) M=some (decide (i < j)):=rfl
@[simp] theorem v_c_le {i j:Int}:zcv .le (.int i) (.int j) M=some (decide (i≤j)):=rfl
@[simp] theorem v_c_gt {i j:Int}:zcv .gt (.int i) (.int j) M=some (decide (j < i)):=rfl
@[simp] theorem v_c_ge {i j:Int}:zcv .ge (.int i) (.int j) M=some (decide (j≤i)):=rfl
@[simp] theorem c_eqi {i j:Int}:zcv .eq (.int i) (.int j) M=some (i==j):=rfl
@[simp] theorem c_nei {i j:Int}:zcv .ne (.int i) (.int j) M=some (!(i==j)):=rfl
@[simp] theorem tru_bl {b:Bool}:zf4 M (.bl b)=some b:=rfl
@[simp] theorem tru_tup {ds:List D}:zf4 M (.tup ds)=some (!ds.isEmpty):=rfl
@[simp] theorem tru_lst {ds:List D}:zf4 M (.lst ds)=some (!ds.isEmpty):=rfl
@[simp] theorem len_tup {ds:List D}:okE (zdg .len [.tup ds] M) k↔k (.int ds.length) M:=Iff.rfl
@[simp] theorem zth {ds:List D}:okE (zdg .len [.lst ds] M) k↔k (.int ds.length) M:=Iff.rfl
@[simp] theorem all_lst {ds:List D}:okE (zdg .all [.lst ds] M) k↔∃ bs,boolsOf ds=some bs /\ k (.bl (bs.all id)) M:=by
  show okE (match boolsOf ds with | some bs=>_ | none=>_) k↔_
  cases boolsOf ds<;>simp
@[simp] theorem sum_lst {ds:List D}:okE (zdg .sum [.lst ds] M) k↔∃ bs,intsOf ds=some bs /\ k (.int bs.sum) M:=by
  show okE (match intsOf ds with | some bs=>_ | none=>_) k↔_
  cases intsOf ds<;>simp
@[simp] theorem tuple_lst {ds:List D}:okE (zdg .tuple [.lst ds] M) k↔k (.tup ds) M:=Iff.rfl
@[simp] theorem tuple_cell {j:Nat}:okE (zdg .tuple [.cell j] M) k↔∃ ds,M[j]?=some ds /\ k (.tup ds) M:=by
  show okE (match M[j]? with | some xs=>_ | none=>_) k↔_
  cases M[j]?<;>simp
@[simp] theorem zqt {m:Bool}{ds:List D}:okE (zdg (.list m) [.lst ds] M) k↔okE (zbh m ds M) k:=Iff.rfl
@[simp] theorem idx_tup {ds:List D}{i:Int}:zf7 (.tup ds) (.int i) M=(ixN ds.length i).bind fun j=>ds[j]?:=rfl
@[simp] theorem ztk {ds:List D}{i:Int}:zf7 (.lst ds) (.int i) M=(ixN ds.length i).bind fun j=>ds[j]?:=rfl
@[simp] theorem idx_cell {j:Nat}{i:Int}:zf7 (.cell j) (.int i) M=(M[j]?).bind fun ds=>(ixN ds.length i).bind fun j=>ds[j]?:=rfl
theorem zlv {n i:Nat} (h:i < n):ixN n (i:Int)=some i:=by
  unfold ixN;rw [if_pos (Int.natCast_nonneg i),if_pos (by exact_mod_cast h)];rfl
end
theorem zju {α:Type}{r:Res α}{d:α}{M:Mem} (h:okE r fun x M'=>x=d /\ M'=M):r=.ok d M:=by
  obtain ⟨a,M',e,rfl,rfl⟩:=zko.mp h
  exact e
theorem zd1 {r:Res D}{d:D}{M:Mem} (h:okE r fun x M'=>x=d /\ M'=M):r=.ok d M:=by
  obtain ⟨a,M',e,rfl,rfl⟩:=zko.mp h
  exact e
section
variable {P:Nat->Option Df} (h:zgo P) {M:Mem}
include h
end
theorem zjw {tg:Tgt}{w:Walk}{ge:GE}{ds:List D}{ρ0:Env}{M:Mem}{kl:List D->Mem->Prop} (f:D->D) (hz:ds.length≤sz) (hw:w M=some ds) (hs:∀ d∈ds,∃ ρ1,zcj tg d ρ0=some ρ1 /\ ge ρ1 M=.ok (f d) M) (hk:kl (ds.map f) M) :
    okE (zdh (zdp tg (zbm ge) ρ0) w [] M) kl:=by
  refine comp_map (fun i acc M'=>M'=M /\ acc=(ds.take i).map f) hz (fun i acc M' h=>by rw [h.1];exact hw) ⟨rfl,rfl⟩ ?_ ?_
  · rintro i d acc M' hd _ ⟨rfl,rfl⟩
    obtain ⟨ρ1,e1,e2⟩:=hs d (List.mem_of_getElem? hd)
    refine ⟨ρ1,e1,?_⟩
    rw [e2]
    refine ⟨rfl,?_⟩
    have hi:i < ds.length:=(List.getElem?_eq_some_iff.mp hd).1
    rw [List.take_succ,hd]
    simp
  · rintro acc M' _ ⟨rfl,rfl⟩
    simpa using hk
abbrev nD (n:Nat):D:=.int (n:Int)
def tabD (l:List Nat):D:=.tup (l.map nD)
inductive ze1 where
  | turn (at_:Nat) (tab:List Nat) (cost:Nat)
  | join (at_ other:Nat) (tab:List (List Nat)) (cost:Nat)
  | move (at_ other cost:Nat)
  | put (at_ word cost:Nat)
def ze1.d:ze1->D
  | .turn a t c=>.tup [.str "turn",nD a,tabD t,nD c]
  | .join a o t c=>.tup [.str "join",nD a,nD o,.tup (t.map tabD),nD c]
  | .move a o c=>.tup [.str "move",nD a,nD o,nD c]
  | .put a w c=>.tup [.str "put",nD a,nD w,nD c]
def ze1.cost:ze1->Nat
  | .turn _ _ c=>c
  | .join _ _ _ c=>c
  | .move _ _ c=>c
  | .put _ _ c=>c
structure ze0 where
  words:Nat
  places:Nat
  deeds:List ze1
def ze0.d (m:ze0):D:=.tup [nD m.words,nD m.places,.tup (m.deeds.map ze1.d)]
theorem zcl {n:Nat} (h:n≤100000):n≤sz:=Nat.le_trans h (by decide)
section
variable {P:Nat->Option Df} (h:zgo P) {M:Mem}
include h
end
section
variable {P:Nat->Option Df} (h:zgo P) {M:Mem}
include h
end
end LD
namespace LD
open PySem
structure Sub (M M':Mem):Prop where
  len:M.length≤M'.length
  at':∀ k,k < M.length->M'[k]?=M[k]?
theorem Sub.refl {M:Mem}:Sub M M:=⟨Nat.le_refl _,fun _ _=>rfl⟩
theorem Sub.trans {M M1 M2:Mem} (a:Sub M M1) (b:Sub M1 M2):Sub M M2:=⟨Nat.le_trans a.len b.len,fun k hk=>(b.at' k (Nat.lt_of_lt_of_le hk a.len)).trans (a.at' k hk)⟩
theorem Sub.get {k:Nat}{M M':Mem}{ds:List D} (h:Sub M M') (e:M[k]?=some ds):M'[k]?=some ds:=by rw [h.at' k (List.getElem?_eq_some_iff.mp e).1];exact e
def ext1 (w:Nat) (l:List (List Nat)):List (List Nat):=l.flatMap fun s=>(List.range w).map fun x=>s++[x]
def begsN (w:Nat):Nat->List (List Nat)
  | 0=>[[]]
  | p+1=>ext1 w (begsN w p)
def begs (m:ze0):List (List Nat):=begsN m.words m.places
def ztf:ze1->List Nat->Nat
  | .turn a t _,s=>t.getD (s.getD a 0) 0
  | .join a o t _,s=>(t.getD (s.getD a 0) []).getD (s.getD o 0) 0
  | .move _ o _,s=>s.getD o 0
  | .put _ x _,_=>x
def ze1.at':ze1->Nat
  | .turn a _ _=>a
  | .join a _ _ _=>a
  | .move a _ _=>a
  | .put a _ _=>a
def doDeed (d:ze1) (s:List Nat):List Nat:=s.take d.at'++[ztf d s]++s.drop (d.at'+1)
theorem getD_mem {α:Type}{l:List α}{i:Nat}{d:α} (h:i < l.length):l.getD i d∈l:=by
  rw [List.getD_eq_getElem?_getD,List.getElem?_eq_getElem h];exact List.getElem_mem h
def RowOk (m:ze0) (r:List Nat):Prop:=r.length≤40 /\ ∀ i∈r,i < m.deeds.length
def zsg (m:ze0) (i:Nat):ze1:=m.deeds.getD i (.put 0 0 1)
def endS (m:ze0):List Nat->List Nat->List Nat
  | [],s=>s
  | i::r,s=>endS m r (doDeed (zsg m i) s)
def zce (M:Mem) (x:D) (r:List Nat):Prop:=x=.lst (r.map nD) \/ ∃ q,x=.cell q /\ M[q]?=some (r.map nD)
theorem zce.l {M:Mem}{r:List Nat}:zce M (.lst (r.map nD)) r:=.inl rfl
theorem zce.c {M:Mem}{q:Nat}{r:List Nat} (h:M[q]?=some (r.map nD)):zce M (.cell q) r:=.inr ⟨q,rfl,h⟩
theorem zce.sub {M M':Mem}{x:D}{r:List Nat} (h:zce M x r) (s:Sub M M'):zce M' x r:=h.elim .inl fun ⟨q,e,g⟩=>.inr ⟨q,e,s.get g⟩
theorem zce.seq {M:Mem}{x:D}{r:List Nat} (h:zce M x r):zbr M x=some (r.map nD):=by
  rcases h with rfl | ⟨q,rfl,e⟩
  · rfl
  · exact e
theorem zce.rd {M:Mem}{x:D}{r:List Nat} (h:zce M x r):rdD M x=some (r.map nD):=by
  rcases h with rfl | ⟨q,rfl,e⟩
  · rfl
  · exact e
theorem zce.is {M:Mem}{x:D}{r:List Nat} (h:zce M x r):zcu x=true /\ zd6 x=true /\ zfu .list x=some true:=by
  rcases h with rfl | ⟨q,rfl,e⟩<;>exact ⟨rfl,rfl,rfl⟩
theorem zce.len {M:Mem}{x:D}{r:List Nat}{k:D->Mem->Prop} (h:zce M x r):okE (zdg .len [x] M) k↔k (.int r.length) M:=by
  rcases h with rfl | ⟨q,rfl,e⟩
  · show k (.int (r.map nD).length) M↔_
    simp
  · show okE (match M[q]? with | some xs=>_ | none=>_) k↔_
    rw [e];simp
theorem zce.list {M:Mem}{x:D}{r:List Nat}{m:Bool}{k:D->Mem->Prop} (h:zce M x r):okE (zdg (.list m) [x] M) k↔okE (zbh m (r.map nD) M) k:=by
  rcases h with rfl | ⟨q,rfl,e⟩
  · exact Iff.rfl
  · show okE (match M[q]? with | some xs=>_ | none=>_) k↔_
    rw [e]
theorem zce.non {M:Mem}{x:D}{r:List Nat} (h:zce M x r):zgq x=false:=by
  rcases h with rfl | ⟨q,rfl,e⟩<;>rfl
section
variable {P:Nat->Option Df} (h:zgo P) {M:Mem}
include h
end
section
variable {P:Nat->Option Df} (h:zgo P) {M:Mem}
include h
end
end LD
namespace LD
open PySem
@[simp] theorem len_cell {j:Nat}{M:Mem}{k:D->Mem->Prop}:okE (zdg .len [.cell j] M) k↔∃ ds,M[j]?=some ds /\ k (.int ds.length) M:=by
  show okE (match M[j]? with | some xs=>_ | none=>_) k↔_
  cases M[j]?<;>simp
structure zbz (M:Mem) (p B:Nat):Prop where
  ex:∃ (c:Nat) (cells:List Int) (at_ st:Int),M[p]?=some [.cell c,.int at_,.int st] /\ M[c]?=some (cells.map D.int) /\ c < p /\ 0≤at_ /\ at_≤B /\ 0≤st
structure zch (p:Nat) (M M':Mem):Prop where
  len:M.length≤M'.length
  at':∀ k,k < M.length->k≠p->M'[k]?=M[k]?
theorem zch.refl {p:Nat}{M:Mem}:zch p M M:=⟨Nat.le_refl _,fun _ _ _=>rfl⟩
theorem zch.trans {p:Nat}{M M1 M2:Mem} (a:zch p M M1) (b:zch p M1 M2):zch p M M2:=⟨Nat.le_trans a.len b.len,fun k hk n=>(b.at' k (Nat.lt_of_lt_of_le hk a.len) n).trans (a.at' k hk n)⟩
theorem zch.set {p:Nat}{M:Mem}{ds:List D}:zch p M (M.set p ds):=⟨by simp,fun k _ n=>List.getElem?_set_ne (Ne.symm n)⟩
theorem zch.get {p k:Nat}{M M':Mem}{ds:List D} (h:zch p M M') (e:M[k]?=some ds) (n:k≠p):M'[k]?=some ds:=by rw [h.at' k (List.getElem?_eq_some_iff.mp e).1 n];exact e
theorem zbz.lt {M:Mem}{p B:Nat} (h:zbz M p B):p < M.length:=by obtain ⟨_,_,_,_,e,_⟩:=h.ex;exact (List.getElem?_eq_some_iff.mp e).1
theorem zbz.mono {M:Mem}{p B B':Nat} (h:zbz M p B) (hb:B≤B'):zbz M p B':=by
  obtain ⟨c,cells,a,st,e1,e2,e3,e4,e5,e6⟩:=h.ex
  exact ⟨c,cells,a,st,e1,e2,e3,e4,by omega,e6⟩
theorem zo9 {a b A B:Int} (h1:0≤a) (h2:a≤A) (h3:0≤b) (h4:b≤B):0≤a * b /\ a * b≤A * B:=
  ⟨Int.mul_nonneg h1 h3,Int.mul_le_mul h2 h4 h3 (Int.le_trans h1 h2)⟩
def zs1:List D:=[.int 2147483629,.int 2147483587,.int 2147483579,.int 2147483563,.int 2147483549,.int 2147483543,.int 2147483497,.int 2147483489,.int 2147483477,.int 2147483423,.int 2147483399,.int 2147483353,.int 2147483323]
theorem zhb (j:Int) (M:Mem):∃ q:Int,zf7 (.lst zs1) (.int (j % 13)) M=some (.int q) /\ 0 < q /\ q < 2147483648:=by
  have h1:0≤j % 13:=Int.emod_nonneg _ (by decide)
  have h2:j % 13 < 13:=Int.emod_lt_of_pos _ (by decide)
  generalize j % 13=i at h1 h2
  have:i=0 \/ i=1 \/ i=2 \/ i=3 \/ i=4 \/ i=5 \/ i=6 \/ i=7 \/ i=8 \/ i=9 \/ i=10 \/ i=11 \/ i=12:=by omega
  rcases this with rfl | rfl | rfl | rfl | rfl | rfl | rfl | rfl | rfl | rfl | rfl | rfl | rfl<;>exact ⟨_,rfl,by decide,by decide⟩
section
variable {P:Nat->Option Df} (h:HasP0 P) {M:Mem}
include h
theorem zos (n:Nat) {x a:Int} (h0:0≤a) (h1:a≤1000000):okE (za3 P (n+1) 28 [.int x,.int a] M) fun d M'=>M'=M /\ ∃ v:Int,d=.int v /\ 0≤v:=by
  refine zc7 h.law_spread rfl ?_
  simp [-ztk,zdz]
  by_cases hx:(1000000000000000000:Int)≤x
  · exact .inr ⟨hx,by omega⟩
  · have r1:=Int.emod_nonneg x (show (1000000007:Int)≠0 by decide)
    have r2:=Int.emod_lt_of_pos x (show (0:Int) < 1000000007 by decide)
    have r3:=Int.emod_nonneg x (show (65537:Int)≠0 by decide)
    have r4:=Int.emod_lt_of_pos x (show (0:Int) < 65537 by decide)
    obtain ⟨m1,m2⟩:=zo9 r1 (Int.le_of_lt r2) (show 0≤2 * a+69069 by omega) (show 2 * a+69069≤2069069 by omega)
    refine .inl ⟨by omega,by decide,by decide,by decide,.inl ⟨by omega,by omega⟩,by omega,?_⟩
    obtain ⟨q1,e1,p1,p2⟩:=zhb a M
    refine ⟨.int q1,e1,?_⟩
    generalize (x % 1000000007 * (2 * a+69069)+a * 40503+977) ^ 3=y1
    have b1:=Int.emod_nonneg y1 (show q1≠0 by omega)
    have b2:=Int.emod_lt_of_pos y1 p1
    generalize hz1:y1 % q1=one at b1 b2
    obtain ⟨m3,m4⟩:=zo9 b1 (show one≤2147483648 by omega) (show 0≤a+3 by omega) (show a+3≤1000003 by omega)
    simp only [zh2,zlr,zgl,zll,hz1]
    refine ⟨p1,.inr ⟨by omega,by omega⟩,⟨by decide,by decide,by omega⟩,?_⟩
    obtain ⟨q2,e2,p3,p4⟩:=zhb (a+5) M
    refine ⟨.int q2,e2,?_⟩
    generalize (one * (a+3)+x % 65537+5) ^ (5:Int).toNat=y2
    have b3:=Int.emod_nonneg y2 (show q2≠0 by omega)
    have b4:=Int.emod_lt_of_pos y2 p3
    generalize hz2:y2 % q2=two at b3 b4
    have r5:=Int.emod_nonneg one (show (1009:Int)≠0 by decide)
    have r6:=Int.emod_lt_of_pos one (show (0:Int) < 1009 by decide)
    simp only [zh2,zlr,zgl,zll,hz2]
    refine ⟨p3,by decide,⟨by decide,by decide,by omega⟩,?_⟩
    obtain ⟨q3,e3,p5,p6⟩:=zhb (a+7) M
    refine ⟨.int q3,e3,?_⟩
    generalize (two+one % 1009+a) ^ (3:Int).toNat=y3
    have b5:=Int.emod_nonneg y3 (show q3≠0 by omega)
    simp only [zh2,zlr,zgl,zll]
    refine ⟨p5,.inr ⟨by decide,by decide⟩,.inr ⟨by decide,by decide⟩,trivial,_,rfl,by omega⟩
omit h in
theorem ix30:ixN 3 0=some 0:=rfl
omit h in
theorem ix31:ixN 3 1=some 1:=rfl
omit h in
theorem ix32:ixN 3 2=some 2:=rfl
omit h in
theorem zix {l:List Int}{i:Int} (h0:0≤i) (h1:i < l.length):∃ x,((ixN l.length i).bind fun j=>Option.map D.int l[j]?)=some (.int x):=by
  obtain ⟨k,rfl⟩:=Int.eq_ofNat_of_zero_le h0
  have hk:k < l.length:=by omega
  refine ⟨l[k],?_⟩
  rw [zlv hk]
  simp [hk]
def zfo:GS:=zac (zan (.one 4) (zak false .mod (zaq (zab 0) (gC (.int 2))) (zab 1))) (zac (zdf (zab 0) (gC (.int 2)) (zak false .fdiv (zaq (zab 0) (gC (.int 2))) (zab 1))) (zac (zal (zab 4)) (zae)))
def zil (c:Call):GS:=zac (zdf (zab 0) (gC (.int 1)) (zak false .add (zab 2) (gC (.int 1)))) (zac (zdf (zab 0) (gC (.int 2)) (zah 28 c (zaa (zab 3) (zaa (zab 2) (zad))))) (zae))
omit h in
theorem zjl {M M1:Mem}{p c many B:Nat}{cells:List Int}{a st:Int}{x y:Option D} (e1:M1[p]?=some [.cell c,.int a,.int st]) (e2:M1[c]?=some (cells.map D.int)) (lt:c < p) (a0:0≤a) (aB:a≤(B+1:Nat)) (s0:0≤st) (k:zch p M M1)
    (h0:0 < many) (h1:many≤10000000):okE (zfo [some (.cell p),some (nD many),x,y,none] M1) (zhe fun d M'=>∃ v:Nat,d=nD v /\ v < many /\ zbz M' p (B+1) /\ zch p M M'):=by
  have hp:p < M1.length:=(List.getElem?_eq_some_iff.mp e1).1
  have ne:c≠p:=Nat.ne_of_lt lt
  have b0:(0:Int) < (many:Int):=by omega
  have r1:=Int.emod_nonneg st (show (many:Int)≠0 by omega)
  have r2:=Int.emod_lt_of_pos st b0
  simp [zfo,e1,ixN]
  refine ⟨by omega,by omega,(st % many).toNat,by omega,by omega,⟨c,cells,a,st / many,?_,?_,lt,a0,aB,Int.ediv_nonneg s0 (by omega)⟩,k.trans zch.set⟩
  · simp [hp]
  · rw [List.getElem?_set_ne (Ne.symm ne)];exact e2
theorem zim (n:Nat) {p B many:Nat} (hp:zbz M p B) (hB:B≤1000000) (h0:0 < many) (h1:many≤10000000):okE (za3 P (n+2) 31 [.cell p,nD many] M) fun d M'=>∃ v:Nat,d=nD v /\ v < many /\ zbz M' p (B+1) /\ zch p M M':=by
  obtain ⟨c,cells,a,st,e1,e2,lt,a0,aB,s0⟩:=hp.ex
  have ne:c≠p:=Nat.ne_of_lt lt
  have hpl:p < M.length:=(List.getElem?_eq_some_iff.mp e1).1
  refine zc7 h.law_take rfl ?_
  show okE (zac (zav _ (zac _ (zac _ (zac _ (zil (za3 P (n+1)))))) _) zfo [some (.cell p),some (nD many),none,none,none] M) _
  have mid:∀ (x:Int),okE (zil (za3 P (n+1)) [some (.cell p),some (nD many),some (.int a),some (.int x),none] M) (zhl zfo (zhe fun d M'=>∃ v:Nat,d=nD v /\ v < many /\ zbz M' p (B+1) /\ zch p M M')):=by
    intro x
    unfold zil
    simp [e1,ixN]
    refine zbv (zos h n (x:=x) (a:=a) a0 (by omega)) fun d M' ⟨e,v,ev,v0⟩=>?_
    subst e ev
    refine ⟨[.cell c,.int (a+1),.int st],by simp [hpl],2,by simp,?_⟩
    have k1:zch p M ((M.set p [.cell c,.int (a+1),.int st]).set p ([.cell c,.int (a+1),.int st].set 2 (.int v))):=zch.set.trans zch.set
    refine zjl (c:=c) (cells:=cells) (a:=a+1) (st:=v) ?_ ?_ lt (by omega) (by omega) v0 k1 h0 h1
    · simp [hpl]
    · rw [List.getElem?_set_ne (Ne.symm ne),List.getElem?_set_ne (Ne.symm ne)];exact e2
  have c0:(0:Int)≤(cells.length:Int):=by omega
  simp [e1,e2,ix30,ix31,ix32,nD]
  by_cases c1:st < many
  · refine .inr ⟨c1,?_⟩
    by_cases c2:a < (cells.length:Int)
    · obtain ⟨x,ex⟩:=zix a0 c2
      exact .inr ⟨c2,_,ex,mid x⟩
    · refine .inl ⟨by omega,?_⟩
      by_cases c3:cells=[]
      · exact .inl ⟨c3,mid 0⟩
      · have c4:0 < cells.length:=List.length_pos_iff.mpr c3
        have r1:=Int.emod_nonneg (a * 5+3) (show (cells.length:Int)≠0 by omega)
        have r2:=Int.emod_lt_of_pos (a * 5+3) (show (0:Int) < (cells.length:Int) by omega)
        obtain ⟨x,ex⟩:=zix r1 r2
        refine .inr ⟨c4,_,ex,?_⟩
        simp only [zh2]
        exact ⟨by omega,mid _⟩
  · refine .inl ⟨by omega,?_⟩
    exact zjl e1 e2 lt a0 (by omega) s0 .refl h0 h1
end
end LD
namespace LD
open PySem
@[simp] theorem mul_ti {m:Bool}{x:List D}{j:Int}{M:Mem}{k:D->Mem->Prop}:okE (zdc m .mul (.tup x) (.int j) M) k↔(x.length * j.toNat≤sz /\ -(2 ^ 63)≤j /\ j < 2 ^ 63) /\ k (.tup (List.replicate j.toNat x).flatten) M:=zeu
@[simp] theorem mul_li {m:Bool}{x:List D}{j:Int}{M:Mem}{k:D->Mem->Prop}:okE (zdc m .mul (.lst x) (.int j) M) k↔(x.length * j.toNat≤sz /\ -(2 ^ 63)≤j /\ j < 2 ^ 63) /\ okE (zbh m (List.replicate j.toNat x).flatten M) k:=zeu
section
variable {P:Nat->Option Df} (h:HasP0 P) {M:Mem}
include h
theorem zsl (n:Nat) {p B:Nat} (hp:zbz M p B):okE (za3 P (n+1) 30 [.cell p] M) fun d M'=>d=.cell p /\ zbz M' p B /\ zch p M M':=by
  obtain ⟨c,cells,a,st,e1,e2,lt,a0,aB,s0⟩:=hp.ex
  have ne:c≠p:=Nat.ne_of_lt lt
  have hpl:p < M.length:=(List.getElem?_eq_some_iff.mp e1).1
  refine zc7 h.law_anew rfl ?_
  simp [zd8,e1,ix32]
  refine ⟨⟨c,cells,a,0,by simp [hpl],?_,lt,a0,aB,by omega⟩,zch.set⟩
  rw [List.getElem?_set_ne (Ne.symm ne)];exact e2
abbrev Drawn (M:Mem) (p B:Nat) (Q:D->Prop):D->Mem->Prop:=fun d M'=>Q d /\ zbz M' p B /\ zch p M M'
theorem tk (n:Nat) {p B many:Nat}{k:D->Mem->Prop} (hp:zbz M p B) (hB:B≤1000000) (h0:0 < many) (h1:many≤10000000) (hk:∀ (v:Nat) (M':Mem),v < many->zbz M' p (B+1)->zch p M M'->k (nD v) M'):okE (za3 P (n+2) 31 [.cell p,nD many] M) k:=
  zbv (zim h n hp hB h0 h1) fun d M' ⟨v,e,hv,hp',hk'⟩=>by subst e;exact hk v M' hv hp' hk'
end
section
variable {P:Nat->Option Df} (h:HasP P) {M:Mem}
include h
end
end LD
namespace LD
open PySem
theorem zsm {xs:List D}{a b:Nat}{M:Mem}{k:D->Mem->Prop}:okE (slcD false (.frz xs) (.int a) (.int b) M) k↔(cut xs (min a xs.length) (min b xs.length)).length≤sz /\ k (.lst (cut xs (min a xs.length) (min b xs.length))) M:=by
  show okE (match sIx xs.length 0 (.int a),sIx xs.length xs.length (.int b) with | some l,some h=>zbh false (cut xs l h) M | _,_=>.bad) k↔_
  have e1:sIx xs.length 0 (.int a)=some (min a xs.length):=by
    show some _=_
    rw [if_neg (by omega)];simp
  have e2:sIx xs.length xs.length (.int b)=some (min b xs.length):=by
    show some _=_
    rw [if_neg (by omega)];simp
  rw [e1,e2]
  exact zfg
theorem zqd {xs:List D}{b:Nat}{M:Mem}{k:D->Mem->Prop}:okE (slcD false (.frz xs) .non (.int b) M) k↔(cut xs 0 (min b xs.length)).length≤sz /\ k (.lst (cut xs 0 (min b xs.length))) M:=by
  show okE (match sIx xs.length 0 D.non,sIx xs.length xs.length (.int b) with | some l,some h=>zbh false (cut xs l h) M | _,_=>.bad) k↔_
  have e2:sIx xs.length xs.length (.int b)=some (min b xs.length):=by
    show some _=_
    rw [if_neg (by omega)];simp
  rw [e2]
  exact zfg
theorem zm1 {α β:Type} (f:α->β) (l:List α) (a b:Nat):cut (l.map f) a b=(cut l a b).map f:=by simp [cut,List.map_take,List.map_drop]
theorem zi5 {α:Type} (l:List α) (a b:Nat):(cut l a b).length≤l.length:=by simp [cut];omega
section
variable {P:Nat->Option Df} (h:HasP0 P) {M:Mem}
include h
theorem zsk (n:Nat) {ns:List Int} (hn:ns.length≤63):okE (za3 P (n+1) 29 [.frz (ns.map D.int)] []) fun d M'=>d=.cell 1 /\ zbz M' 1 0:=by
  refine zc7 h.law_open rfl ?_
  simp [zd7,zc5]
  refine (zqd (b:=12)).mpr ⟨?_,?_⟩
  · exact zcl (Nat.le_trans (zi5 _ _ _) (by simp;omega))
  simp only [zqt,ztc]
  refine ⟨zcl (Nat.le_trans (zi5 _ _ _) (by simp;omega)),(zsm (a:=12) (b:=63)).mpr ⟨zcl (Nat.le_trans (zi5 _ _ _) (by simp;omega)),⟨rfl,rfl⟩,?_⟩⟩
  rw [zm1,zm1]
  simp only [List.length_map,List.length_nil,List.nil_append]
  have e63:min 63 ns.length=ns.length:=by omega
  rw [e63]
  refine zmz (ds:=zdb 0 ((cut ns (min 12 ns.length) ns.length).map D.int)) (fun i ρ M'=>∃ l:List Int,M'=[l.map D.int] /\ l.length=min 12 ns.length /\ ∃ a b,ρ=[some (.frz (ns.map D.int)),some (.cell 0),a,b]) (fun _ _ _ _=>rfl) ⟨cut ns 0 (min 12 ns.length),rfl,by simp [cut],none,none,rfl⟩ ?_ ?_
  · rintro i d ρ M' hd ⟨l,rfl,hl,a,b,rfl⟩
    rw [zgb,List.getElem?_map] at hd
    cases e:(cut ns (min 12 ns.length) ns.length)[i]? with
    | none=>rw [e] at hd;cases hd
    | some x =>
      rw [e] at hd
      have hd:D.tup [.int ((0+i:Nat):Int),.int x]=d:=Option.some.inj hd
      subst hd
      have hi:=(List.getElem?_eq_some_iff.mp e).1
      have hlen:12 < ns.length:=by
        by_cases c:12 < ns.length
        · exact c
        · have:min 12 ns.length=ns.length:=by omega
          rw [this] at hi
          simp [cut] at hi
      have l12:l.length=12:=by omega
      have r1:=Int.emod_nonneg (i:Int) (show (12:Int)≠0 by decide)
      have r2:=Int.emod_lt_of_pos (i:Int) (show (0:Int) < 12 by decide)
      obtain ⟨y,ey⟩:=zix (l:=l) r1 (by rw [l12];exact r2)
      obtain ⟨k,ek⟩:∃ k:Nat,(i:Int) % 12=(k:Int):=⟨((i:Int) % 12).toNat,by omega⟩
      refine ⟨_,rfl,?_⟩
      simp
      rw [ek] at ey ⊢
      have hk:k < l.length:=by omega
      refine ⟨_,ey,?_⟩
      simp only [zgl]
      refine ⟨l.map D.int,rfl,k,?_,l.set k (y+x),?_,by simp [hl]⟩
      · simpa using zlv hk
      · simp [List.map_set]
  · rintro ρ M' ⟨l,rfl,hl,a,b,rfl⟩
    simp
    exact ⟨by decide,⟨0,l,0,0,rfl,rfl,by decide,by decide,by decide,by decide⟩⟩
end
end LD
namespace LD
open PySem
theorem Sub.keep {p:Nat}{M M':Mem} (h:Sub M M'):zch p M M':=⟨h.len,fun k hk _=>h.at' k hk⟩
theorem Sub.pen {p B:Nat}{M M':Mem} (h:Sub M M') (hp:zbz M p B):zbz M' p B:=by
  obtain ⟨c,cells,a,st,e1,e2,r⟩:=hp.ex
  exact ⟨c,cells,a,st,h.get e1,h.get e2,r⟩
structure Has07 (P:Nat->Option Df):Prop where
  m:zgo P
  p:HasP P
  row:P 35=some ⟨3,6,zif⟩
  h14:P 14=some ⟨2,5,zi8⟩
  h15:P 15=some ⟨1,6,zgi⟩
  h19:P 19=some ⟨2,2,b_cost⟩
  h26:P 26=some ⟨3,3,b_run⟩
  h27:P 27=some ⟨2,2,zg0⟩
  h46:P 46=some ⟨2,2,zka⟩
  h47:P 47=some ⟨2,2,zke⟩
  right:P 36=some ⟨3,9,zmb⟩
  law:P 37=some ⟨1,9,b_law⟩
section
variable {P:Nat->Option Df} (h:Has07 P) {M:Mem}
include h
end
end LD
namespace LD
open PySem
structure HasB (P:Nat->Option Df):Prop where
  after:P 41=some ⟨2,4,zmd⟩
  begins:P 42=some ⟨1,1,zki⟩
structure zkt (P:Nat->Option Df):Prop where
  same:P 40=some ⟨2,2,zb5⟩
theorem zjh:∀ ds:List D,zef ds ds=ds.map fun d=>.tup [d,d]
  | []=>rfl
  | d::r=>by simp [zef,zjh r]
theorem znk {ds:List D}{M:Mem}:zcv .notin (.bl false) (.lst (ds.map fun _=>.bl true)) M=some true:=by
  show ((zbr M (.lst (ds.map fun _=>.bl true))).bind (inL (view M (.bl false)))).map (!·)=_
  show (inL (.bl false) (ds.map fun _=>.bl true)).map (!·)=_
  unfold inL
  rw [if_pos]
  · have:(ds.map fun _=>D.bl true).any (fun y=>zba y (.bl false))=false:=by
      rw [List.any_eq_false];intro x hx;obtain ⟨_,_,rfl⟩:=List.mem_map.mp hx;simp [zba]
    rw [this];rfl
  · simp [zao]
@[simp] theorem list_tup {m:Bool}{ds:List D}{M:Mem}{k:D->Mem->Prop}:okE (zdg (.list m) [.tup ds] M) k↔okE (zbh m ds M) k:=Iff.rfl
def zlf (c:Call):GS:=zac (zav (zam (zaw .ne (za1 .len (zaa (zab 0) (zad))) (za1 .len (zaa (zab 1) (zad))))) (zac (zal (gC (.bl false))) (zae)) (zae)) (zac (zal (zaw .notin (gC (.bl false)) (za8 false 2 (.tup [0,1]) (zgr (zab 0) (zab 1)) (zbm (zah 40 c (zaa (zab 0) (zaa (zab 1) (zad)))))))) (zae))
section
variable {P:Nat->Option Df} (h:zkt P) {M:Mem}
include h
theorem zox (n:Nat) {x y:D}{ds:List D}{ρ:Env}{kl:List D->Mem->Prop} (hx:zbr M x=some ds) (hy:zbr M y=some ds) (hz:ds.length≤sz) (hs:∀ d∈ds,za3 P n 40 [d,d] M=.ok (.bl true) M) (hk:kl (ds.map fun _=>.bl true) M) :
    okE (zdh (zdp (.tup [0,1]) (zbm (zah 40 (za3 P n) (zaa (zab 0) (zaa (zab 1) zad)))) (none::none::ρ)) (zgp x y) [] M) kl:=by
  refine zjw (ds:=ds.map fun d=>.tup [d,d]) (fun _=>.bl true) (by simpa using hz) ?_ ?_ ?_
  · simp [zgp,hx,hy,zjh]
  · intro d hd
    obtain ⟨e,he,rfl⟩:=List.mem_map.mp hd
    refine ⟨_,rfl,?_⟩
    refine zd1 ?_
    simp
    rw [hs e he]
    exact ⟨rfl,rfl⟩
  · simpa [Function.comp_def] using hk
theorem zqe (n:Nat) {x y:D}{ds:List D} (hx:zbr M x=some ds) (hy:zbr M y=some ds) (lx:zdg .len [x] M=.ok (.int ds.length) M) (ly:zdg .len [y] M=.ok (.int ds.length) M) (sx:zcu x=true) (sy:zcu y=true) (hz:ds.length≤sz) (hs:∀ d∈ds,za3 P n 40 [d,d] M=.ok (.bl true) M) :
    okE (zlf (za3 P n) [some x,some y] M) (zhe fun d M'=>d=.bl true /\ M'=M):=by
  simp [zlf,lx,ly,sx,sy]
  exact zox h n hx hy hz hs ⟨by simpa using hz,znk,rfl⟩
end
section
variable {P:Nat->Option Df} (h:HasB P) {M:Mem}
include h
end
end LD
namespace LD
open PySem
section
variable {ρ:Env}{M:Mem}{a b d:GE}{k:D->Mem->Prop}{kw:Walk->Mem->Prop}{kf:Fl->Mem->Prop}
@[simp] theorem w_zip3:okE (znt a b d ρ M) kw↔okE (a ρ M) fun x M=>okE (b ρ M) fun y M=>okE (d ρ M) fun z M=>(zcu x&&zcu y&&zcu z)=true /\ kw (zipW3 x y z) M:=by
  simp only [znt,zaz];refine iff_of_eq ?_;congr 1;funext x M;congr 1;funext y M;congr 1;funext z M;split<;>simp_all
@[simp] theorem e_rev {m:Bool}:okE (gRev m a ρ M) k↔okE (a ρ M) fun x M=>okE (revD m x M) k:=by simp [gRev]
@[simp] theorem rev_lst {m:Bool}{xs:List D}:okE (revD m (.lst xs) M) k↔okE (zbh m xs.reverse M) k:=Iff.rfl
@[simp] theorem rev_tup {m:Bool}{xs:List D}:okE (revD m (.tup xs) M) k↔k (.tup xs.reverse) M:=Iff.rfl
@[simp] theorem s_par_ {i j:Nat}{gs:GA}:okE (sPar i j gs ρ M) kf↔okE (gs ρ M) fun ds M=>∃ a b,ds=[a,b] /\ kf (.next ((ρ.set i (some a)).set j (some b))) M:=by
  simp only [sPar,zaz];refine iff_of_eq ?_;congr 1;funext ds M
  match ds with
  | []=>simp
  | [_]=>simp
  | [_,_]=>simp;exact ⟨fun q=>⟨_,_,⟨rfl,rfl⟩,q⟩,fun ⟨_,_,⟨e1,e2⟩,q⟩=>by subst e1 e2;exact q⟩
  | _::_::_::_=>simp
@[simp] theorem e_int_:okE (gInt a ρ M) k↔okE (a ρ M) fun x M=>(∃ i,x=.int i /\ k (.int i) M) \/ ∃ b,x=.bl b /\ k (.int (if b=true then 1 else 0)) M:=by
  simp only [gInt,zaz];refine iff_of_eq ?_;congr 1;funext x M;cases x<;>simp
end
def ends (m:ze0) (r:List Nat):List (List Nat):=(begs m).map (endS m r)
section
variable {P:Nat->Option Df} (h:HasB P) {M:Mem}
include h
end
structure HasA (P:Nat->Option Df):Prop where
  h15:P 15=some ⟨1,6,zgi⟩
  h27:P 27=some ⟨2,2,zg0⟩
  h46:P 46=some ⟨2,2,zka⟩
  parted:P 48=some ⟨3,8,zrf⟩
section
variable {P:Nat->Option Df}{M:Mem}
end
end LD
namespace LD
open PySem
theorem Sub.to {p:Nat}{M M1 M':Mem} (k:zch p M M1) (h:Sub M1 M'):zch p M M':=k.trans h.keep
def pairD (p:List Nat×List Nat):D:=.tup [.lst (p.1.map nD),.lst (p.2.map nD)]
structure zpu (m:ze0) (k:Nat) (p:List Nat×List Nat):Prop where
  r1:RowOk m p.1
  r2:RowOk m p.2
  l1:p.1.length≤k
  l2:p.2.length≤k
  al:ends m p.1=ends m p.2
def AllOk (m:ze0) (k:Nat) (prs:List (List Nat×List Nat)):Prop:=∀ pr∈prs,zpu m k pr
section
variable {P:Nat->Option Df} (hp_:HasP P) (h35:P 35=some ⟨3,6,zif⟩) (hs_:HasB P) (he:P 44=some ⟨2,5,zml⟩) (hal:P 49=some ⟨2,7,zgj⟩) {M:Mem}
include hp_ h35 hs_ he hal
end
end LD
namespace LD
open PySem
abbrev Rule:=List Nat×List Nat
structure Stp where
  place:Nat
  num:Nat
  back:Bool
def Stp.d (s:Stp):D:=.tup [nD s.place,nD s.num,.bl s.back]
structure zm4 (m:ze0) (rules:List Rule):Prop where
  ok:AllOk m 3 rules
  len:rules.length≤10
theorem zm4.at {m:ze0}{rules:List Rule} (h:zm4 m rules) {i:Nat} (hi:i < rules.length):zpu m 3 (rules.getD i ([],[])):=h.ok _ (getD_mem hi)
end LD
namespace LD
open PySem
theorem zpl {tg:Tgt}{w:Walk}{gc:GT}{ge:GE}{ds:List D}{ρ0:Env}{M:Mem}{kl:List D->Mem->Prop} (f:D->Bool) (g:D->D) (hz:ds.length≤sz) (hw:w M=some ds)
    (hs:∀ d∈ds,∃ ρ1,zcj tg d ρ0=some ρ1 /\ gc ρ1 M=.ok (f d) M /\ (f d=true->ge ρ1 M=.ok (g d) M)) (hk:kl ((ds.filter f).map g) M):okE (zdh (zdp tg (gIf gc (zbm ge)) ρ0) w [] M) kl:=by
  refine zg4 (fun i acc M'=>M'=M /\ acc=((ds.take i).filter f).map g) (fun i acc M' h=>by rw [h.1];exact hw) ⟨rfl,rfl⟩ ?_ ?_
  · rintro i d acc M' hd ⟨rfl,rfl⟩
    obtain ⟨ρ1,e1,e2,e3⟩:=hs d (List.mem_of_getElem? hd)
    have hi:i < ds.length:=(List.getElem?_eq_some_iff.mp hd).1
    simp only [zdp,e1,zqr,Res.bind_ok,gIf,e2]
    rw [List.take_succ,hd]
    cases q:f d with
    | false =>
      simp [q]
    | true =>
      rw [if_pos rfl]
      have len:(((ds.take i).filter f).map g).length≤i:=by
        rw [List.length_map]
        exact Nat.le_trans (List.length_filter_le _ _) (by simp;omega)
      simp only [zbm,e3 q,Res.bind_ok]
      rw [if_pos (by omega)]
      simp [q]
  · rintro acc M' ⟨rfl,rfl⟩
    simpa using hk
def zgn (M:Mem) (x:D) (p:Rule):Prop:=∃ y z,x=.tup [y,z] /\ zce M y p.1 /\ zce M z p.2
theorem zgn.l {M:Mem}{p:Rule}:zgn M (pairD p) p:=⟨_,_,rfl,.l,.l⟩
theorem zgn.sub {M M':Mem}{x:D}{p:Rule} (h:zgn M x p) (s:Sub M M'):zgn M' x p:=let ⟨y,z,e,a,b⟩:=h;⟨y,z,e,a.sub s,b.sub s⟩
structure HasR (P:Nat->Option Df):Prop where
  is_row:P 52=some ⟨2,2,zrh⟩
  is_rule:P 53=some ⟨2,4,zpr⟩
  need_rules:P 54=some ⟨2,4,zl9⟩
  behind:P 55=some ⟨3,10,zkf⟩
  stepped:P 56=some ⟨4,8,zpq⟩
  copied:P 57=some ⟨1,1,zkh⟩
section
variable {P:Nat->Option Df} (h:zgo P) (ha:HasA P) (hr_:HasR P) {M:Mem}
include h hr_
include ha
end
section
variable {P:Nat->Option Df} (h:zgo P) (ha:HasA P) (hr_:HasR P) {M:Mem}
include h hr_
include ha
omit h ha in
end
end LD
namespace LD
open PySem
def Th:Nat->Nat->D->Prop
  | _,_,.non=>True
  | _,_,.bl _=>True
  | _,_,.int _=>True
  | _,L,.str x=>x.cps.size≤L /\ x.cps.all (· < 0x110000)=true
  | n+1,L,.tup ds=>ds.length≤L /\ ∀ d∈ds,Th n L d
  | n+1,L,.lst ds=>ds.length≤L /\ ∀ d∈ds,Th n L d
  | _,_,_=>False
theorem Th.mono:∀ {n n' L L':Nat}{d:D},Th n L d->n≤n'->L≤L'->Th n' L' d
  | n,n',L,L',.non,_,_,_=>by cases n'<;>trivial
  | n,n',L,L',.bl _,_,_,_=>by cases n'<;>trivial
  | n,n',L,L',.int _,_,_,_=>by cases n'<;>trivial
  | n, n', L, L', .str x, h, _, l => by
    have h:x.cps.size≤L /\ x.cps.all (· < 0x110000)=true:=by cases n<;>exact h
    have:x.cps.size≤L' /\ x.cps.all (· < 0x110000)=true:=⟨Nat.le_trans h.1 l,h.2⟩
    cases n'<;>exact this
  | n+1,n'+1,L,L',.tup ds,h,a,l=>⟨Nat.le_trans h.1 l,fun d hd=>Th.mono (h.2 d hd) (Nat.le_of_succ_le_succ a) l⟩
  | n+1,n'+1,L,L',.lst ds,h,a,l=>⟨Nat.le_trans h.1 l,fun d hd=>Th.mono (h.2 d hd) (Nat.le_of_succ_le_succ a) l⟩
  | n+1,0,L,L',.tup ds,h,a,l=>by omega
  | n+1,0,L,L',.lst ds,h,a,l=>by omega
  | 0,n',L,L',.tup ds,h,a,l=>h.elim
  | 0,n',L,L',.lst ds,h,a,l=>h.elim
  | n,n',L,L',.frz _,h,_,_=>by cases n<;>exact h.elim
  | n,n',L,L',.cell _,h,_,_=>by cases n<;>exact h.elim
  | n,n',L,L',.fn _,h,_,_=>by cases n<;>exact h.elim
  | n,n',L,L',.exc _ _,h,_,_=>by cases n<;>exact h.elim
theorem Th.pure:∀ {n L:Nat}{d:D},Th n L d->zao n d=true
  | n,L,.non,_=>by cases n<;>rfl
  | n,L,.bl _,_=>by cases n<;>rfl
  | n,L,.int _,_=>by cases n<;>rfl
  | n,L,.str x,h=>by cases n<;>exact h.2
  | n + 1, L, .tup ds, h => by
    show ds.all (zao n)=true
    rw [List.all_eq_true]
    exact fun d hd=>(h.2 d hd).pure
  | n + 1, L, .lst ds, h => by
    show ds.all (zao n)=true
    rw [List.all_eq_true]
    exact fun d hd=>(h.2 d hd).pure
  | 0,L,.tup ds,h=>h.elim
  | 0,L,.lst ds,h=>h.elim
  | n,L,.frz _,h=>by cases n<;>exact h.elim
  | n,L,.cell _,h=>by cases n<;>exact h.elim
  | n,L,.fn _,h=>by cases n<;>exact h.elim
  | n,L,.exc _ _,h=>by cases n<;>exact h.elim
theorem Th.view {n L:Nat}{d:D}{M:Mem} (h:Th n L d):view M d=d:=by
  cases d<;>first | rfl | (cases n<;>exact h.elim)
theorem Th.tup {n L:Nat}{ds:List D} (h:Th n L (.tup ds)):ds.length≤L /\ ∀ d∈ds,Th n L d:=by
  cases n with
  | zero=>exact h.elim
  | succ n=>exact ⟨h.1,fun d hd=>(h.2 d hd).mono (Nat.le_succ n) (Nat.le_refl L)⟩
structure HasQ (P:Nat->Option Df):Prop where
  is_between:P 0=some ⟨3,3,zgh⟩
  is_word:P 1=some ⟨2,2,zj4⟩
  is_place:P 2=some ⟨2,2,zie⟩
  is_cost:P 3=some ⟨1,1,zj9⟩
  is_tuple_of:P 4=some ⟨2,2,zf1⟩
  is_table:P 5=some ⟨2,2,zid⟩
  is_double_table:P 6=some ⟨2,2,zek⟩
  is_turn:P 7=some ⟨3,6,zj5⟩
  is_join:P 8=some ⟨3,7,zj7⟩
  is_move:P 9=some ⟨3,6,zj6⟩
  is_put:P 10=some ⟨3,6,zma⟩
  is_deed:P 11=some ⟨3,5,zj8⟩
  is_machine:P 12=some ⟨1,4,zgg⟩
section
variable {P:Nat->Option Df} (h:HasQ P) {M:Mem}{k L:Nat}{d:D}
include h
omit h in
omit h in
omit h in
omit h in
omit h in
omit h in
omit h in
omit h in
omit h in
omit h in
end
end LD
namespace LD
open PySem
structure HasW (P:Nat->Option Df):Prop where
  whole:P 67=some ⟨1,1,zig⟩
  is_in:P 68=some ⟨3,3,zmc⟩
  numbers:P 69=some ⟨4,4,zja⟩
  is_deed:P 70=some ⟨3,3,zjc⟩
  is_machine:P 71=some ⟨1,1,zgy⟩
section
variable {P:Nat->Option Df} (h:HasW P) {M:Mem}{k L:Nat}{d:D}
include h
end
section
variable {P:Nat->Option Df} (h:HasW P) {M:Mem}{k L:Nat}{d:D}
include h
end
section
variable {P:Nat->Option Df} (h:HasW P) {M:Mem}{k L:Nat}{d:D}
include h
omit h in
end
end LD
namespace LD
open PySem
structure HasT0 (P:Nat->Option Df):Prop where
  but:P 64=some ⟨2,4,zcy⟩
  any:P 65=some ⟨1,1,zcz⟩
structure HasT (P:Nat->Option Df):Prop extends HasT0 P where
  signed:P 66=some ⟨2,3,zkg⟩
  bent:P 72=some ⟨3,9,zmn⟩
instance coeHasT {P:Nat->Option Df}:Coe (HasT P) (HasT0 P):=⟨HasT.toHasT0⟩
section
variable {ρ:Env}{M:Mem}{a b lo hi:GE}{k:D->Mem->Prop}{kw:Walk->Mem->Prop}
@[simp] theorem w_seqS:okE (zh8 a ρ M) kw↔okE (a ρ M) fun x M=>∃ z,x=.str z /\ kw (fun _=>some (signs z)) M:=by
  simp only [zh8,zaz];refine iff_of_eq ?_;congr 1;funext x M;cases x<;>simp
@[simp] theorem e_notT:okE (gNotT a b ρ M) k↔okE (a ρ M) fun x M=>okE (b ρ M) fun y M=>∃ v,x=.bl v /\ y=.bl true /\ k (.bl (!v)) M:=by
  simp only [gNotT,zaz];refine iff_of_eq ?_;congr 1;funext x M;congr 1;funext y M
  cases x<;>cases y<;>simp
  rename_i v w;cases w<;>simp
end
def zks (L:Nat) (z:Str):Prop:=z.cps.size≤L /\ z.cps.all (· < 0x110000)=true
theorem zks.th {n L:Nat}{z:Str} (h:zks L z):Th n L (.str z):=by cases n<;>exact h
theorem add_str {m:Bool}{x y:Str}{M:Mem}{k:D->Mem->Prop} (h:x.cps.size+y.cps.size≤sz):okE (zdc m .add (.str x) (.str y) M) k↔k (.str ⟨x.cps++y.cps⟩) M:=by simp [zdc,h]
abbrev sgA:Str:=" !\"#$&'()*+,-./0123456789:;<=>?@ABCDEFGHIJKLMNOPQRSTUVWXYZ[\\]^_`"
abbrev sgB:Str:="abcdefghijklmnopqrstuvwxyz{|}~\t\n"
def allSigns:Str:=⟨sgA.cps++sgB.cps⟩
theorem zt9 {M:Mem}{k:D->Mem->Prop}:okE (zdc false .add (.str sgA) (.str sgB) M) k↔k (.str allSigns) M:=add_str (Nat.le_trans (by decide +kernel) (zcl (n:=200) (by decide)))
theorem zd9:(0 < (signs allSigns).length /\ (signs allSigns).length≤200) /\ allSigns.cps.size≤200 /\ ((signs allSigns).all fun d=>match d with | .str z=>!zep z ""&&z.cps.size==1&&z.cps.all (· < 0x110000) | _=>false)=true:=by decide +kernel
theorem sign_is {d:D} (h:d∈signs allSigns):∃ z:Str,d=.str z /\ zep z ""=false /\ zks 1 z:=by
  have q:=List.all_eq_true.mp zd9.2.2 d h
  cases d with
  | str z =>
    simp only [Bool.and_eq_true,Bool.not_eq_true',beq_iff_eq] at q
    exact ⟨z,rfl,q.1.1,by rw [q.1.2];exact Nat.le_refl 1,q.2⟩
  | _=>cases q
section
variable {P:Nat->Option Df} (hp_:HasP0 P) (ht_:HasT0 P) {M:Mem}
include hp_ ht_
theorem sp_any (n:Nat) {p B:Nat} (hp:zbz M p B) (hB:B≤900000):okE (za3 P (n+4) 65 [.cell p] M) fun d M'=>∃ z:Str,d=.str z /\ zks 1 z /\ zbz M' p (B+1) /\ zch p M M':=by
  refine zc7 ht_.any rfl ?_
  show okE (zcz _ [some (.cell p)] M) _
  simp only [zcz,zc3,zhp,zec,zeb,zfy,zd5,e_c,List.getElem?_cons_zero,Option.getD_some,Option.some.injEq,exists_eq_left']
  refine zc7 ht_.but rfl ?_
  show okE (zcy _ [some (.cell p),some (.str ""),none,none] M) _
  simp only [zcy,zc3,s_nil_,zf5,zd2,zhp,e_c,znx,zd5,List.getElem?_cons_zero,List.getElem?_cons_succ,Option.getD_some,Option.some.injEq,exists_eq_left',List.set_cons_zero,List.set_cons_succ]
  refine zt9.mpr ?_
  simp only [zl2,w_seqS,zd5,List.getElem?_cons_zero,List.getElem?_cons_succ,Option.getD_some,Option.some.injEq,exists_eq_left',D.str.injEq]
  refine zpl (fun _=>true) (fun d=>d) (ds:=signs allSigns) (zcl (by have:=zd9.1.2;omega)) rfl (fun d hd=>?_) ?_
  · obtain ⟨z,rfl,hz,_⟩:=sign_is hd
    refine ⟨_,rfl,zju ?_,fun _=>rfl⟩
    simp
    show some (!zep z "")=_
    rw [hz];rfl
  have ef:(List.filter (fun _=>true) (signs allSigns)).map (fun d=>d)=signs allSigns:=by simp
  rw [ef]
  refine zfg.mpr ⟨zcl (by have:=zd9.1.2;omega),?_⟩
  simp only [zd2,zc3,zhp,e_idx,zec,zeb,zfy,e_blt,zd5,List.getElem?_cons_zero,List.getElem?_cons_succ,Option.getD_some,Option.some.injEq,exists_eq_left',List.set_cons_zero,List.set_cons_succ,zth]
  refine tk hp_ n hp (by omega) zd9.1.1 (by have:=zd9.1.2;omega) fun v M' hv q kk=>?_
  obtain ⟨z,e,_,hz⟩:=sign_is (List.getElem_mem hv)
  refine ⟨.str z,?_,z,rfl,hz,q,kk⟩
  show (ixN (signs allSigns).length (v:Int)).bind (fun j=>(signs allSigns)[j]?)=_
  rw [zlv hv]
  simp [hv,e]
end
section
variable {P:Nat->Option Df} (hp_:HasP P) (ht_:HasT P) {M:Mem}
include hp_ ht_
omit hp_ ht_ in
end
section
variable {P:Nat->Option Df} (hp_:HasP P) (ht_:HasT P) (hw_:HasW P) {M:Mem}
include hp_ ht_ hw_
omit hp_ ht_ hw_ in
omit hp_ ht_ hw_ in
end
end LD
namespace LD
open PySem
section
variable {P:Nat->Option Df}{M:Mem}{k L:Nat}{d:D}
end
section
variable {P:Nat->Option Df} (h:zkt P) {M:Mem}
include h
theorem zjn (n:Nat) {z:Str} (hz:zao 64 (.str z)=true):za3 P (n+1) 40 [.str z,.str z] M=.ok (.bl true) M:=by
  refine zd1 (zc7 h.same rfl ?_)
  have e:zcv .eq (.str z) (.str z) M=some true:=zt5 hz hz (by simp [view,zba])
  show okE (zb5 (za3 P n) [some (.str z),some (.str z)] M) _
  unfold zb5
  refine zbs rfl (zbs rfl (zbs rfl (zfj rfl (v:=.bl true) ?_ ⟨rfl,rfl⟩)))
  show ((ofO M (zcv .eq (.str z) (.str z) M)).bind fun b M=>Res.ok (D.bl b) M)=_
  rw [e];rfl
end
end LD
namespace LD
open PySem
section
variable {ρ:Env}{M:Mem}{a:GE}{s:GA}{k:D->Mem->Prop}{kf:Fl->Mem->Prop}
@[simp] theorem e_mkI {c:Nat}:okE (zfw c a ρ M) k↔okE (a ρ M) fun x M=>∃ i,x=.int i /\ i.natAbs < 2 ^ 64 /\ k (.exc c (some i)) M:=by
  simp only [zfw,zaz];refine iff_of_eq ?_;congr 1;funext x M
  cases x with
  | int i=>by_cases h:i.natAbs < 2 ^ 64<;>simp [h]
  | _=>simp
@[simp] theorem e_mkX {c:Nat}:okE (zdl c s ρ M) k↔okE (s ρ M) fun ds M=>ds.length≤sz /\ k (.exc c none) M:=by
  simp only [zdl,zaz];refine iff_of_eq ?_;congr 1;funext x M
  by_cases h:x.length≤sz<;>simp [h]
@[simp] theorem e_join {sep:Str}:okE (zfx sep a ρ M) k↔okE (a ρ M) fun x M=>∃ xs,(rdD M x).bind strsOf=some xs /\ zf8 sep xs=true /\ k (.str (PySem.Builtin.Str.glued sep xs)) M:=by
  simp only [zfx,zaz];refine iff_of_eq ?_;congr 1;funext x M
  cases (rdD M x).bind strsOf with
  | none=>simp
  | some xs=>by_cases h:zf8 sep xs=true<;>simp [h]
theorem zb3 {t rest:GS}{ρ':Env} (e:t ρ M=.ok (.next ρ') M) (h:okE (rest ρ' M) kf):okE (zac t rest ρ M) kf:=by
  simp only [zc3]
  rw [e]
  exact h
end
theorem zqy (l:List Str):∀ (acc:Array Nat),(∀ y∈l,y.length≤1)->(l.foldl (fun acc p=>acc++(Str.empty).cps++p.cps) acc).size≤acc.size+l.length:=by
  induction l with
  | nil=>intro acc _;simp
  | cons y r ih =>
    intro acc h
    have h1:=h y List.mem_cons_self
    have h2:=ih (acc++(Str.empty).cps++y.cps) fun z hz=>h z (List.mem_cons_of_mem _ hz)
    have h1:y.cps.size≤1:=h1
    simp only [List.foldl_cons,List.length_cons]
    have e:(acc++(Str.empty).cps++y.cps).size=acc.size+y.cps.size:=by simp [Str.empty]
    omega
theorem fit5 {xs:List Str} (h:∀ y∈xs,y.length≤1) (hl:xs.length≤5):zf8 "" xs=true:=by
  unfold zf8
  rw [Bool.and_eq_true]
  constructor
  · rw [PySem.StrLaws.joinFits (B:=1) h (by show xs.length * 1+xs.length * (Str.ofString "").length≤_;have:(Str.ofString "").length=0:=rfl;rw [this];omega)]
    rfl
  · refine decide_eq_true ?_
    cases xs with
    | nil=>exact Nat.zero_le _
    | cons y r =>
      have:=zqy r y.cps fun z hz=>h z (List.mem_cons_of_mem _ hz)
      have h1:y.cps.size≤1:=h y List.mem_cons_self
      have hl:r.length+1≤5:=hl
      refine Nat.le_trans this (zcl (by omega))
theorem zqa:∀ {acc:List D}{xs:List Str}{z:Str},strsOf acc=some xs->strsOf (acc++[.str z])=some (xs++[z]):=by
  intro acc
  induction acc with
  | nil=>intro xs z h;cases h;rfl
  | cons d r ih =>
    intro xs z h
    cases d with
    | str y =>
      obtain ⟨ys,e,rfl⟩:=Option.map_eq_some_iff.mp h
      show (strsOf (r++[.str z])).map (y::·)=_
      rw [ih e];rfl
    | _=>cases h
def excs (i:Int):List D:=[.exc 0 (some i),.exc 1 (some i),.exc 2 (some i),.exc 3 none,.exc 4 none,.exc 5 none,.exc 6 none,.exc 7 none,.exc 8 none,.exc 9 none,.exc 10 none,.exc 11 none,.exc 12 none,.exc 13 none]
def refD:D->D
  | .exc 0 (some i)=>.lst [.str "row",.int i]
  | .exc 1 (some i)=>.lst [.str "rule",.int i]
  | .exc 2 (some i)=>.lst [.str "step",.int i]
  | .exc 3 _=>.lst [.str "machine"]
  | .exc 4 _=>.lst [.str "long"]
  | .exc 5 _=>.lst [.str "word"]
  | .exc 6 _=>.lst [.str "work"]
  | .exc 7 _=>.lst [.str "bound"]
  | .exc 8 _=>.lst [.str "many"]
  | .exc 9 _=>.lst [.str "place"]
  | .exc 10 _=>.lst [.str "deed"]
  | .exc 11 _=>.lst [.str "nothing"]
  | .exc 12 _=>.lst [.str "text"]
  | .exc 13 _=>.lst [.str "line"]
  | _=>.non
theorem zjd {f:Str}{c j:Nat}{i:Int}{ρ:Env}{M:Mem} (h:ρ[j]?.getD none=some (.exc c (some i))) (e:zde c=f):zey f (zab j) ρ M=.ok (.int i) M:=by
  unfold zey zab
  rw [h]
  show (if zde c=f then Res.ok (D.int i) M else .bad)=_
  rw [if_pos e]
section
variable {ρ:Env}{M:Mem}{a b:GE}{s:GA}
theorem zls {c j:Nat}{i:Int} (h:ρ[j]?.getD none=some (.int i)) (hi:i.natAbs < 2 ^ 64):zfw c (zab j) ρ M=.ok (.exc c (some i)) M:=by
  unfold zfw zab
  rw [h]
  show (if i.natAbs < 2 ^ 64 then Res.ok (D.exc c (some i)) M else .bad)=_
  rw [if_pos hi]
theorem zdk {c j:Nat}{x:D} (h:ρ[j]?.getD none=some x):zdl c (zaa (zab j) zad) ρ M=.ok (.exc c none) M:=by
  unfold zdl zaa zab
  rw [h]
  rfl
theorem zb9 {x:D}{xs:List D} (ea:a ρ M=.ok x M) (es:s ρ M=.ok xs M):zaa a s ρ M=.ok (x::xs) M:=by
  unfold zaa
  rw [ea]
  show (s ρ M).bind _=_
  rw [es]
  rfl
theorem zh4 {xs:List D} (es:s ρ M=.ok xs M) (hl:xs.length≤100):za2 false s ρ M=.ok (.lst xs) M:=by
  unfold za2
  rw [es]
  show (if xs.length≤sz then (if false=true then _ else Res.ok (D.lst xs) M) else .bad)=_
  rw [if_pos (zcl (by omega))]
  rfl
theorem zpt {xs ys:List D} (ea:a ρ M=.ok (.lst xs) M) (eb:b ρ M=.ok (.lst ys) M) (hl:(xs++ys).length≤100):zak false .add a b ρ M=.ok (.lst (xs++ys)) M:=by
  unfold zak
  rw [ea]
  show (b ρ M).bind _=_
  rw [eb]
  show (if (xs++ys).length≤sz then (if false=true then _ else Res.ok (D.lst (xs++ys)) M) else .bad)=_
  rw [if_pos (zcl (by omega))]
  rfl
theorem zgk {i:Nat}{x:D} (e:a ρ M=.ok x M):zan (.one i) a ρ M=.ok (.next (ρ.set i (some x))) M:=by
  unfold zan
  rw [e]
  rfl
theorem zol {j:Nat}{x:D} (h:ρ[j]?.getD none=some x):zab j ρ M=.ok x M:=by
  unfold zab
  rw [h]
  rfl
end
theorem lst2 {x:D}{a:GE}{ρ:Env}{M:Mem}{y:D} (e:a ρ M=.ok y M):za2 false (zaa (gC x) (zaa a zad)) ρ M=.ok (.lst [x,y]) M:=by
  exact zh4 (zb9 rfl (zb9 e rfl)) (Nat.le_of_ble_eq_true rfl)
section
variable {P:Nat->Option Df} (h75:P 75=some ⟨1,3,zc8⟩) {M:Mem}
include h75
theorem zm9 (n:Nat) {i:Int}{d:D} (hd:d∈excs i):za3 P (n+1) 75 [d] M=.ok (refD d) M:=by
  refine zd1 (zc7 h75 rfl ?_)
  show okE (zc8 (za3 P n) [some d,none,none] M) _
  simp only [excs,List.mem_cons,List.not_mem_nil,or_false] at hd
  rcases hd with rfl | rfl | rfl | rfl | rfl | rfl | rfl | rfl | rfl | rfl | rfl | rfl | rfl | rfl
  · exact zb3 rfl (zb3 rfl (zb3 rfl (zb3 rfl (zb3 rfl (zbs rfl (zfj rfl (lst2 (zjd rfl rfl)) ⟨rfl,rfl⟩))))))
  · exact zb3 rfl (zb3 rfl (zb3 rfl (zb3 rfl (zb3 rfl (zbs rfl (zbs rfl (zfj rfl (lst2 (zjd rfl rfl)) ⟨rfl,rfl⟩)))))))
  · exact zb3 rfl (zb3 rfl (zb3 rfl (zb3 rfl (zb3 rfl (zbs rfl (zbs rfl (zbs rfl (zfj rfl (lst2 (zjd rfl rfl)) ⟨rfl,rfl⟩))))))))
  all_goals exact ok_rfl (by rfl)
end
structure Has08 (P:Nat->Option Df):Prop where
  p:HasP0 P
  t:HasT0 P
  same:P 40=some ⟨2,2,zb5⟩
  ref:P 75=some ⟨1,3,zc8⟩
  law:P 78=some ⟨1,8,zgv⟩
section
variable {P:Nat->Option Df} (h:zkt P) {M:Mem}
include h
theorem zfq (n:Nat) {ds:List D} (hz:ds.length≤sz) (hs:∀ d∈ds,za3 P n 40 [d,d] M=.ok (.bl true) M):za3 P (n+1) 40 [.lst ds,.lst ds] M=.ok (.bl true) M:=by
  refine zd1 (zc7 h.same rfl ?_)
  show okE (zb5 (za3 P n) [some (.lst ds),some (.lst ds)] M) _
  unfold zb5
  exact zbs rfl (zbs rfl (zbs rfl (zbs rfl (zbs rfl (zqe h n rfl rfl rfl rfl rfl rfl hz hs)))))
theorem zot (n:Nat) (i:Int):za3 P (n+1) 40 [.int i,.int i] M=.ok (.bl true) M:=by
  refine zd1 (zc7 h.same rfl ?_)
  show okE (zb5 (za3 P n) [some (.int i),some (.int i)] M) _
  unfold zb5
  exact zbs rfl (zbs rfl (zfj rfl (v:=.bl (i==i)) rfl ⟨by simp,rfl⟩))
end
def zgc (i:Int):List D:=(excs i).map refD
def wordB:D->Bool
  | .lst [.str z]=>zao 64 (.str z)
  | .lst [.str z,.int _]=>zao 64 (.str z)
  | _=>false
theorem zph (i:Int):∀ d∈zgc i,wordB d=true:=fun d hd=>by
  have hd:d∈[D.lst [.str "row",.int i],.lst [.str "rule",.int i],.lst [.str "step",.int i],.lst [.str "machine"],.lst [.str "long"],.lst [.str "word"],.lst [.str "work"],.lst [.str "bound"],.lst [.str "many"],.lst [.str "place"],.lst [.str "deed"],.lst [.str "nothing"],.lst [.str "text"],.lst [.str "line"]]:=hd
  simp only [List.mem_cons,List.not_mem_nil,or_false] at hd
  rcases hd with rfl | rfl | rfl | rfl | rfl | rfl | rfl | rfl | rfl | rfl | rfl | rfl | rfl | rfl
  · show zao 64 (.str "row")=true
    decide +kernel
  · show zao 64 (.str "rule")=true
    decide +kernel
  · show zao 64 (.str "step")=true
    decide +kernel
  all_goals decide +kernel
section
variable {P:Nat->Option Df} (h:Has08 P) {M:Mem}
include h
theorem zq6 (n:Nat) (i:Int):za3 P (n+3) 40 [.lst (zgc i),.lst (zgc i)] M=.ok (.bl true) M:=by
  have h0:zkt P:=⟨h.same⟩
  refine zfq h0 (n+2) (zcl (n:=14) (by decide)) fun d hd=>?_
  have q:=zph i d hd
  unfold wordB at q
  split at q
  · exact zfq h0 (n+1) (zcl (n:=1) (by decide)) fun d hd=>by
      obtain rfl:=List.mem_singleton.mp hd
      exact zjn h0 n q
  · exact zfq h0 (n+1) (zcl (n:=2) (by decide)) fun d hd=>by
      rcases List.mem_cons.mp hd with rfl | hd
      · exact zjn h0 n q
      · obtain rfl:=List.mem_singleton.mp hd
        exact zot h0 n _
  · cases q
theorem zp9 {ρ:Env}{p B many:Nat} (hv:ρ[1]?.getD none=some (.cell p)) {m:Int} (hm:ρ[3]?.getD none=some (.int m)) (em:(1:Int)+(many:Int)=m) (h5:many < 5) (hp:zbz M p B) (hB:B≤800000) :
    okE (zfx "" (za8 false 1 (.one 0) (zci (zab 3)) (zbm (zah 65 (za3 P 39) (zaa (zab 2) zad)))) ρ M) fun d M'=>(∃ z,d=.str z) /\ zbz M' p (B+5):=by
  simp only [e_join,zl2,zok,zd5,hm,Option.some.injEq,exists_eq_left',D.int.injEq]
  refine ⟨by omega,?_⟩
  have et:m.toNat=many+1:=by omega
  rw [et]
  refine comp_map (ds:=(List.range (many+1)).map fun (k:Nat)=>D.int (k:Int)) (fun i acc M'=>zbz M' p (B+i) /\ ∃ xs,strsOf acc=some xs /\ (∀ y∈xs,y.length≤1) /\ xs.length=i) (zcl (by simp;omega)) (fun _ _ _ _=>rfl) ⟨hp,[],rfl,(fun _ hy=>nomatch hy),rfl⟩ ?_ ?_
  · rintro i d acc M' hd hl ⟨q,xs,e1,e2,e3⟩
    have hi:i < many+1:=by
      have:=(List.getElem?_eq_some_iff.mp hd).1
      simpa using this
    refine ⟨_,rfl,?_⟩
    have hv2:((List.replicate 1 none++ρ).set 0 (some d))[2]?.getD none=some (.cell p):=by
      show (ρ[1]?).getD none=_
      exact hv
    simp only [zec,zeb,zfy,zd5,hv2,Option.some.injEq,exists_eq_left']
    refine zbv (sp_any h.p h.t 35 q (by omega)) fun d M2 ⟨z,ed,hz,q2,_⟩=>?_
    subst ed
    refine ⟨q2,xs++[z],zqa e1,fun y hy=>?_,by simp [e3]⟩
    rcases List.mem_append.mp hy with hy | hy
    · exact e2 y hy
    · obtain rfl:=List.mem_singleton.mp hy
      exact hz.1
  · rintro acc M' hl ⟨q,xs,e1,e2,e3⟩
    simp only [List.length_map,List.length_range] at hl e3 q
    refine zfg.mpr ⟨zcl (by omega),xs,e1,fit5 e2 (by omega),⟨_,rfl⟩,q.mono (by omega)⟩
theorem zsh {ρ:Env}{p B many:Nat} (hv:ρ[1]?.getD none=some (.cell p)) {m:Int} (hm:ρ[3]?.getD none=some (.int m)) (em:(1:Int)+(many:Int)=m) (h5:many < 5) (hp:zbz M p B) (hB:B≤800000) :
    ∃ z M',zfx "" (za8 false 1 (.one 0) (zci (zab 3)) (zbm (zah 65 (za3 P 39) (zaa (zab 2) zad)))) ρ M=.ok (.str z) M' /\ zbz M' p (B+5):=by
  obtain ⟨d,M',e,⟨z,rfl⟩,q⟩:=zko.mp (zp9 h hv hm em h5 hp hB)
  exact ⟨z,M',e,q⟩
theorem law08 (ns:List Int) (hn:ns.length≤63):∃ M,za3 P 40 78 [.frz (ns.map D.int)] []=.ok (.bl true) M:=by
  have goal:okE (za3 P 40 78 [.frz (ns.map D.int)] []) fun d _=>d=.bl true:=by
    refine zc7 h.law rfl ?_
    simp only [zgv,zc3,zf5,zec,zeb,zfy,zd5]
    simp only [Option.some.injEq,exists_eq_left',List.getElem?_cons_zero,List.getElem?_cons_succ,Option.getD_some,List.map_cons,List.map_nil,List.cons_append,List.nil_append]
    refine zbv (zsk h.p 38 hn) fun d M1 ⟨ed,q1⟩=>?_
    subst ed
    simp only [zd2,zc3,s_for_,zok,e_c]
    refine ⟨3,rfl,by decide,?_⟩
    refine zmz (ds:=(List.range 3).map fun (k:Nat)=>D.int (k:Int)) (fun i ρ M'=>zbz M' 1 (i * 20) /\ ∃ x2 x3 x4 x5 x6 x7,ρ=[some (.frz (ns.map D.int)),some (.cell 1),x2,x3,x4,x5,x6,x7]) (fun _ _ _ _=>rfl) ⟨q1,none,none,none,none,none,none,rfl⟩ ?_ ?_
    · rintro i dd ρ M' hd ⟨q2,x2,x3,x4,x5,x6,x7,rfl⟩
      have hi:i < 3:=by
        have:=(List.getElem?_eq_some_iff.mp hd).1
        simpa using this
      refine ⟨_,rfl,?_⟩
      simp only [zc3,zf5,znx,zec,zeb,zfy,e_c,zd5,Option.some.injEq,exists_eq_left',List.getElem?_cons_zero,List.getElem?_cons_succ,Option.getD_some,List.set_cons_zero,List.set_cons_succ]
      refine zbv (zsl h.p 38 q2) fun d M3 ⟨ed,q3,k3⟩=>?_
      subst ed
      show okE (za3 P 39 31 [.cell 1,nD 5] M3) _
      refine zbv (zim h.p 37 q3 (by omega) (many:=5) (by omega) (by omega)) fun d M4 ⟨v,ed,hv,q4,_⟩=>?_
      subst ed
      simp only [nD,zgl,zd2]
      generalize em:(1:Int)+(v:Int)=m
      show okE (zac _ _ [some (.frz (ns.map D.int)),some (.cell 1),some dd,some (.int m),x4,x5,x6,x7] M4) _
      simp only [zc3,zf5]
      have hB:i * 20+1≤800000:=by omega
      have r1:([some (.frz (ns.map D.int)),some (.cell 1),some dd,some (.int m),x4,x5,x6,x7]:Env)[1]?.getD none=some (.cell 1):=rfl
      have r2:([some (.frz (ns.map D.int)),some (.cell 1),some dd,some (.int m),x4,x5,x6,x7]:Env)[3]?.getD none=some (.int m):=rfl
      have a8:=zsh h r1 r2 em hv q4 hB
      refine Exists.elim a8 fun z a9=>Exists.elim a9 fun M5 a10=>?_
      have tx:=a10.1
      have q5:=a10.2
      clear a8 a9 a10
      rw [tx,zhz]
      simp only [zd2]
      show okE (zac _ _ [some (.frz (ns.map D.int)),some (.cell 1),some dd,some (.int m),some (.str z),x5,x6,x7] M5) _
      simp only [zc3,zf5,znx,zec,zeb,zfy,e_c,zd5,Option.some.injEq,exists_eq_left',List.getElem?_cons_zero,List.getElem?_cons_succ,Option.getD_some,List.set_cons_zero,List.set_cons_succ]
      have e6:zdc false .pow (.int 10) (.int 6) M5=.ok (nD 1000000) M5:=rfl
      rw [e6,zhz]
      refine zbv (zim h.p 37 q5 (by omega) (many:=1000000) (by omega) (by omega)) fun d M6 ⟨u,ed,hu,q6,_⟩=>?_
      subst ed
      simp only [nD,sub_ii,zd2]
      show okE (zac _ _ [some (.frz (ns.map D.int)),some (.cell 1),some dd,some (.int m),some (.str z),some (.int ((u:Int) - 9)),x6,x7] M6) _
      have hu':((u:Int) - 9).natAbs < 2 ^ 64:=by omega
      generalize ((u:Int) - 9)=w at hu'
      refine zb3 (zgk (zh4 (zb9 (zls rfl hu') (zb9 (zls rfl hu') (zb9 (zls rfl hu') (zb9 (zdk rfl) (zb9 (zdk rfl) (zb9 (zdk rfl) rfl)))))) (Nat.le_of_ble_eq_true rfl))) ?_
      refine zb3 (zgk (zpt (zol rfl) (zh4 (zb9 (zdk rfl) (zb9 (zdk rfl) (zb9 (zdk rfl) (zb9 (zdk rfl) (zb9 (zdk rfl) (zb9 (zdk rfl) rfl)))))) (Nat.le_of_ble_eq_true rfl)) (Nat.le_of_ble_eq_true rfl))) ?_
      refine zb3 (zgk (zpt (zol rfl) (zh4 (zb9 (zdk rfl) (zb9 (zdk rfl) rfl)) (Nat.le_of_ble_eq_true rfl)) (Nat.le_of_ble_eq_true rfl))) ?_
      refine zb3 (zgk rfl) (zb3 (zgk rfl) ?_)
      have ec:za8 false 1 (.one 0) (zck (zab 6)) (zbm (zah 75 (za3 P 39) (zaa (zab 0) zad))) [some (.frz (ns.map D.int)),some (.cell 1),some dd,some (.int m),some (.str z),some (.int w),some (.lst (excs w)),some (.lst (zgc w))] M6=.ok (.lst (zgc w)) M6:=by
        refine zd1 ?_
        simp only [zl2,w_seq,zd5,Option.some.injEq,exists_eq_left',List.getElem?_cons_zero,List.getElem?_cons_succ,Option.getD_some]
        refine ⟨rfl,zjw (ds:=excs w) refD (zcl (n:=14) (by decide)) rfl (fun d hd=>⟨_,rfl,?_⟩) (zfg.mpr ⟨zcl (n:=14) (by decide),rfl,rfl⟩)⟩
        refine zd1 ?_
        simp only [zec,zeb,zfy,zd5]
        refine ⟨d,rfl,?_⟩
        rw [zm9 h.ref 38 hd]
        exact ⟨rfl,rfl⟩
      refine zbs (t:=zbf (zam (zah 40 (za3 P 39) (zaa (za8 false 1 (.one 0) (zck (zab 6)) (zbm (zah 75 (za3 P 39) (zaa (zab 0) zad)))) (zaa (zab 7) zad))))) ?_ ⟨_,rfl,q6.mono (by omega),_,_,_,_,_,_,rfl⟩
      refine zju ?_
      simp only [t_not,t_tru,zec,zeb]
      show okE (za8 false 1 (.one 0) (zck (zab 6)) (zbm (zah 75 (za3 P 39) (zaa (zab 0) zad))) [some (.frz (ns.map D.int)),some (.cell 1),some dd,some (.int m),some (.str z),some (.int w),some (.lst (excs w)),some (.lst (zgc w))] M6) _
      rw [ec,zhz]
      show okE (za3 P 39 40 [.lst (zgc w),.lst (zgc w)] M6) _
      rw [zq6 h 36 w,zhz]
      exact ⟨true,rfl,rfl,rfl⟩
    · rintro ρ M' ⟨q2,x2,x3,x4,x5,x6,x7,rfl⟩
      simp
  obtain ⟨d,M,e,rfl⟩:=zko.mp goal
  exact ⟨M,e⟩
end
end LD
namespace K08
open PySem PySem.Spec PyProof.Rows L2 LD
def top (i:Nat):PySem.Stmt:=PySem.Challenge.pw_leastdeeds_k08_refusals_apart.main.body.getD i (.Pass ⟨0,0,0,0⟩)
abbrev zcc:PySem.Stmt:=top 17
abbrev zcq:PySem.Stmt:=top 18
abbrev zcr:PySem.Stmt:=top 19
abbrev zcp:PySem.Stmt:=top 20
abbrev zbq:PySem.Stmt:=top 21
abbrev zb0:PySem.Stmt:=top 22
abbrev zcf:PySem.Stmt:=top 23
abbrev zb7:PySem.Stmt:=top 24
abbrev zd3:PySem.Stmt:=top 25
abbrev zqc:PySem.Stmt:=inC (top 2)
abbrev zor:PySem.Stmt:=inC (top 3)
abbrev zoq:PySem.Stmt:=inC (top 4)
theorem nd0:(["cell","at","primes","one","two","three"]:List Str).Nodup:=by decide +kernel
theorem nd1:(["script","cells","k","cell"]:List Str).Nodup:=by decide +kernel
theorem nd2:(["pen"]:List Str).Nodup:=by decide +kernel
theorem nd3:(["pen","many","at","cell","found"]:List Str).Nodup:=by decide +kernel
theorem nd4:(["pen","others","all_signs","some"]:List Str).Nodup:=by decide +kernel
theorem nd5:(["sign","pen","others","all_signs","some"]:List Str).Nodup:=by decide +kernel
theorem nd6:(["pen"]:List Str).Nodup:=by decide +kernel
theorem nd7:(["found","due"]:List Str).Nodup:=by decide +kernel
theorem nd8:(["one","other","found","due"]:List Str).Nodup:=by decide +kernel
theorem nd9:(["caught","some","words"]:List Str).Nodup:=by decide +kernel
theorem zev:(["script","pen","turn","many","text","number","some","due"]:List Str).Nodup:=by decide +kernel
theorem nd11:(["one","script","pen","turn","many","text","number","some","due"]:List Str).Nodup:=by decide +kernel
theorem nd12:(["k","script","pen","turn","many","text","number","some","due"]:List Str).Nodup:=by decide +kernel
def Pg:Nat->Option Df
  | 28=>some ⟨2,6,zdz⟩
  | 29=>some ⟨1,4,zd7⟩
  | 30=>some ⟨1,1,zd8⟩
  | 31=>some ⟨2,5,ze8⟩
  | 40=>some ⟨2,2,zb5⟩
  | 64=>some ⟨2,4,zcy⟩
  | 65=>some ⟨1,1,zcz⟩
  | 75=>some ⟨1,3,zc8⟩
  | 78=>some ⟨1,8,zgv⟩
  | _=>none
end K08
set_option maxHeartbeats 4000000
namespace K08
open PySem PySem.Spec PyProof.Rows L2 LD
structure Txt (K:PySem.W.Frag) (w:World) (mg:Str->Option Value) (fa:Fa):Prop where
  b_ValueError:mg "ValueError"=none
  b_bool:mg "bool"=none
  b_enumerate:mg "enumerate"=none
  b_int:mg "int"=none
  b_isinstance:mg "isinstance"=none
  b_len:mg "len"=none
  b_list:mg "list"=none
  b_range:mg "range"=none
  b_str:mg "str"=none
  b_tuple:mg "tuple"=none
  b_zip:mg "zip"=none
  xc:XCs fa K
  k_DeedError:∃ D,mg "DeedError"=some (.ref D) /\ fa 999=some D
  k_NoRow:∃ D,mg "NoRow"=some (.ref D) /\ fa (cid 0)=some D
  k_NoRule:∃ D,mg "NoRule"=some (.ref D) /\ fa (cid 1)=some D
  k_NoStep:∃ D,mg "NoStep"=some (.ref D) /\ fa (cid 2)=some D
  k_NoMachine:∃ D,mg "NoMachine"=some (.ref D) /\ fa (cid 3)=some D
  k_TooLong:∃ D,mg "TooLong"=some (.ref D) /\ fa (cid 4)=some D
  k_NoWord:∃ D,mg "NoWord"=some (.ref D) /\ fa (cid 5)=some D
  k_NoWork:∃ D,mg "NoWork"=some (.ref D) /\ fa (cid 6)=some D
  k_NoBound:∃ D,mg "NoBound"=some (.ref D) /\ fa (cid 7)=some D
  k_TooMany:∃ D,mg "TooMany"=some (.ref D) /\ fa (cid 8)=some D
  k_NoPlace:∃ D,mg "NoPlace"=some (.ref D) /\ fa (cid 9)=some D
  k_NoDeed:∃ D,mg "NoDeed"=some (.ref D) /\ fa (cid 10)=some D
  k_Nothing:∃ D,mg "Nothing"=some (.ref D) /\ fa (cid 11)=some D
  k_NoText:∃ D,mg "NoText"=some (.ref D) /\ fa (cid 12)=some D
  k_NoLine:∃ D,mg "NoLine"=some (.ref D) /\ fa (cid 13)=some D
  km_NoMachine:∃ C,mg "NoMachine"=some (.ref C) /\ fa (cid 3)=some C /\ PySem.W.excIn K C bmV "ValueError.__new__"=true /\ PySem.W.keepIn K (.ref C)=true
  km_TooLong:∃ C,mg "TooLong"=some (.ref C) /\ fa (cid 4)=some C /\ PySem.W.excIn K C bmV "ValueError.__new__"=true /\ PySem.W.keepIn K (.ref C)=true
  km_NoWord:∃ C,mg "NoWord"=some (.ref C) /\ fa (cid 5)=some C /\ PySem.W.excIn K C bmV "ValueError.__new__"=true /\ PySem.W.keepIn K (.ref C)=true
  km_NoWork:∃ C,mg "NoWork"=some (.ref C) /\ fa (cid 6)=some C /\ PySem.W.excIn K C bmV "ValueError.__new__"=true /\ PySem.W.keepIn K (.ref C)=true
  km_NoBound:∃ C,mg "NoBound"=some (.ref C) /\ fa (cid 7)=some C /\ PySem.W.excIn K C bmV "ValueError.__new__"=true /\ PySem.W.keepIn K (.ref C)=true
  km_TooMany:∃ C,mg "TooMany"=some (.ref C) /\ fa (cid 8)=some C /\ PySem.W.excIn K C bmV "ValueError.__new__"=true /\ PySem.W.keepIn K (.ref C)=true
  km_NoPlace:∃ C,mg "NoPlace"=some (.ref C) /\ fa (cid 9)=some C /\ PySem.W.excIn K C bmV "ValueError.__new__"=true /\ PySem.W.keepIn K (.ref C)=true
  km_NoDeed:∃ C,mg "NoDeed"=some (.ref C) /\ fa (cid 10)=some C /\ PySem.W.excIn K C bmV "ValueError.__new__"=true /\ PySem.W.keepIn K (.ref C)=true
  km_Nothing:∃ C,mg "Nothing"=some (.ref C) /\ fa (cid 11)=some C /\ PySem.W.excIn K C bmV "ValueError.__new__"=true /\ PySem.W.keepIn K (.ref C)=true
  km_NoText:∃ C,mg "NoText"=some (.ref C) /\ fa (cid 12)=some C /\ PySem.W.excIn K C bmV "ValueError.__new__"=true /\ PySem.W.keepIn K (.ref C)=true
  km_NoLine:∃ C,mg "NoLine"=some (.ref C) /\ fa (cid 13)=some C /\ PySem.W.excIn K C bmV "ValueError.__new__"=true /\ PySem.W.keepIn K (.ref C)=true
  i_NoRow:∀ (P:Program) (base:Heap),zed fa P w K mg base 0 "NoRow"
  i_NoRule:∀ (P:Program) (base:Heap),zed fa P w K mg base 1 "NoRule"
  i_NoStep:∀ (P:Program) (base:Heap),zed fa P w K mg base 2 "NoStep"
  xf_number:XFl fa K "number"
  xf_place:XFl fa K "place"
  f__law_spread:∀ ad,fa 28=some ad->mg "_law_spread"=some (.ref ad)
  f__law_open:∀ ad,fa 29=some ad->mg "_law_open"=some (.ref ad)
  f__law_anew:∀ ad,fa 30=some ad->mg "_law_anew"=some (.ref ad)
  f__law_take:∀ ad,fa 31=some ad->mg "_law_take"=some (.ref ad)
  f__law_same:∀ ad,fa 40=some ad->mg "_law_same"=some (.ref ad)
  f__law_sign_but:∀ ad,fa 64=some ad->mg "_law_sign_but"=some (.ref ad)
  f__law_any_sign:∀ ad,fa 65=some ad->mg "_law_any_sign"=some (.ref ad)
  f__law_refusal:∀ ad,fa 75=some ad->mg "_law_refusal"=some (.ref ad)
theorem boot_bool:bootBuiltins "bool"=some (.type (tyName .bool)):=by decide +kernel
theorem boot_int:bootBuiltins "int"=some (.type (tyName .int)):=by decide +kernel
theorem boot_list:bootBuiltins "list"=some (.type (tyName .list)):=by decide +kernel
theorem boot_str:bootBuiltins "str"=some (.type (tyName .str)):=by decide +kernel
theorem boot_tuple:bootBuiltins "tuple"=some (.type (tyName .tuple)):=by decide +kernel
section
variable {fa:Fa}{P:Program}{w:World}{K:PySem.W.Frag}{mg:Str->Option Value}{base:Heap}
theorem zio:zbw ["cell","at","primes","one","two","three"] ["cell","at"] (zai zcc):=⟨rfl,rfl,rfl,nd0,rfl,by decide +kernel,by decide +kernel⟩
variable (T:Txt K w mg fa) {ad:Addr} (c:Call) (n:Nat) (cdv:Value) (A:Around) (outer:List PySem.Env) (s:Shared) (H:Hp) (E:XK) (C:∀ f,zee fa P w K mg base n f (c f))
include T C in
theorem zkd (hr:zbd (n+4) (A.deeper (envOfC "_law_spread" (zai zcc) s.heap.objs.size ad cdv))) :
    DSs fa (zca (CXE P w) P w K mg base ["cell","at","primes","one","two","three"] "_law_spread" (zai zcc) ad cdv A outer s H E) (zbe zcc) (zdz c):=by
  have hu:(A.deeper (envOfC "_law_spread" (zai zcc) s.heap.objs.size ad cdv)).units+100 < cLine:=by have:=hr.un;omega
  exact unbox (zaj (zco (zdw hu .ge (zag (i:=0) rfl (.inl rfl) rfl rfl) (zau false .pow (zap) (zap)) rfl) (zaj (zbx (zag (i:=0) rfl (.inl rfl) rfl rfl)) (zax)) (zax)) (zaj (zbi (za7 false (zaf (zap) (zaf (zap) (zaf (zap) (zaf (zap) (zaf (zap) (zaf (zap) (zaf (zap) (zaf (zap) (zas) rfl) rfl) rfl) rfl) rfl) rfl) rfl) rfl)) (za0 (i:=2) nd0 rfl (.inl rfl) (.inl rfl)) rfl rfl rfl) (zaj (zbi (zau false .add (zag (i:=2) rfl (.inl rfl) rfl rfl) (za7 false (zaf (zap) (zaf (zap) (zaf (zap) (zaf (zap) (zaf (zap) (zas) rfl) rfl) rfl) rfl) rfl))) (za0 (i:=2) nd0 rfl (.inl rfl) (.inl rfl)) rfl rfl rfl) (zaj (zbi (zau false .mod (zau false .pow (zau false .add (zau false .add (zau false .mul (zau false .mod (zag (i:=0) rfl (.inl rfl) rfl rfl) (zap)) (zau false .add (zau false .mul (zap) (zag (i:=1) rfl (.inl rfl) rfl rfl)) (zap))) (zau false .mul (zag (i:=1) rfl (.inl rfl) rfl rfl) (zap))) (zap)) (zap)) (zb1 (zag (i:=2) rfl (.inl rfl) rfl rfl) (zau false .mod (zag (i:=1) rfl (.inl rfl) rfl rfl) (zap)) (fun _ _=>rfl))) (za0 (i:=3) nd0 rfl (.inl rfl) (.inl rfl)) rfl rfl rfl) (zaj (zbi (zau false .mod (zau false .pow (zau false .add (zau false .add (zau false .mul (zag (i:=3) rfl (.inl rfl) rfl rfl) (zau false .add (zag (i:=1) rfl (.inl rfl) rfl rfl) (zap))) (zau false .mod (zag (i:=0) rfl (.inl rfl) rfl rfl) (zap))) (zap)) (zap)) (zb1 (zag (i:=2) rfl (.inl rfl) rfl rfl) (zau false .mod (zau false .add (zag (i:=1) rfl (.inl rfl) rfl rfl) (zap)) (zap)) (fun _ _=>rfl))) (za0 (i:=4) nd0 rfl (.inl rfl) (.inl rfl)) rfl rfl rfl) (zaj (zbi (zau false .mod (zau false .pow (zau false .add (zau false .add (zag (i:=4) rfl (.inl rfl) rfl rfl) (zau false .mod (zag (i:=3) rfl (.inl rfl) rfl rfl) (zap))) (zag (i:=1) rfl (.inl rfl) rfl rfl)) (zap)) (zb1 (zag (i:=2) rfl (.inl rfl) rfl rfl) (zau false .mod (zau false .add (zag (i:=1) rfl (.inl rfl) rfl rfl) (zap)) (zap)) (fun _ _=>rfl))) (za0 (i:=5) nd0 rfl (.inl rfl) (.inl rfl)) rfl rfl rfl) (zaj (zbx (zau false .add (zau false .mul (zau false .add (zau false .mul (zag (i:=3) rfl (.inl rfl) rfl rfl) (zap)) (zag (i:=4) rfl (.inl rfl) rfl rfl)) (zap)) (zag (i:=5) rfl (.inl rfl) rfl rfl))) (zax))))))))
theorem zld:zbw ["script","cells","k","cell"] ["script"] (zai zcq):=⟨rfl,rfl,rfl,nd1,rfl,by decide +kernel,by decide +kernel⟩
include T C in
theorem zmj (hr:zbd (n+4) (A.deeper (envOfC "_law_open" (zai zcq) s.heap.objs.size ad cdv))) :
    DSs fa (zca (CXE P w) P w K mg base ["script","cells","k","cell"] "_law_open" (zai zcq) ad cdv A outer s H E) (zbe zcq) (zd7 c):=by
  have hu:(A.deeper (envOfC "_law_open" (zai zcq) s.heap.objs.size ad cdv)).units+100 < cLine:=by have:=hr.un;omega
  exact unbox (zaj (zbi (zr8 true rfl T.b_list (zaf (zoc false false true (zag (i:=0) rfl (.inl rfl) rfl rfl) (zsc) (zii (zap))) (zas) rfl) rfl rfl) (za0 (i:=1) nd1 rfl (.inl rfl) (.inl rfl)) rfl rfl rfl) (zaj (zoa PassesOwn.leaving rfl (zp1 (zoc false true true (zag (i:=0) rfl (.inl rfl) rfl rfl) (zii (zap)) (zii (zap))) rfl T.b_enumerate rfl) (zmo (l:=[2,3]) rfl nd1 (.cons rfl (.inl rfl) (.inl rfl) (.cons rfl (.inl rfl) (.inl rfl) (.nil)))) (zaj (zf2 (zag (i:=1) rfl (.inl rfl) rfl rfl) (zau false .mod (zag (i:=2) rfl (.inl rfl) rfl rfl) (zap)) (zau false .add (zb1 (zag (i:=1) rfl (.inl rfl) rfl rfl) (zau false .mod (zag (i:=2) rfl (.inl rfl) rfl rfl) (zap)) (fun _ _=>rfl)) (zag (i:=3) rfl (.inl rfl) rfl rfl)) (fun _=>rfl) rfl rfl rfl) (zax)) (fun _=>rfl)) (zaj (zbx (za7 true (zaf (zag (i:=1) rfl (.inl rfl) rfl rfl) (zaf (zap) (zaf (zap) (zas) rfl) rfl) rfl))) (zax))))
theorem zle:zbw ["pen"] ["pen"] (zai zcr):=⟨rfl,rfl,rfl,nd2,rfl,by decide +kernel,by decide +kernel⟩
include T C in
theorem zmk (hr:zbd (n+4) (A.deeper (envOfC "_law_anew" (zai zcr) s.heap.objs.size ad cdv))) :
    DSs fa (zca (CXE P w) P w K mg base ["pen"] "_law_anew" (zai zcr) ad cdv A outer s H E) (zbe zcr) (zd8 c):=by
  have hu:(A.deeper (envOfC "_law_anew" (zai zcr) s.heap.objs.size ad cdv)).units+100 < cLine:=by have:=hr.un;omega
  exact unbox (zaj (zf2 (zag (i:=0) rfl (.inl rfl) rfl rfl) (zap) (zap) (fun _=>rfl) rfl rfl rfl) (zaj (zbx (zag (i:=0) rfl (.inl rfl) rfl rfl)) (zax)))
theorem zlb:zbw ["pen","many","at","cell","found"] ["pen","many"] (zai zcp):=⟨rfl,rfl,rfl,nd3,rfl,by decide +kernel,by decide +kernel⟩
include T C in
theorem zmh (hr:zbd (n+4) (A.deeper (envOfC "_law_take" (zai zcp) s.heap.objs.size ad cdv))) :
    DSs fa (zca (CXE P w) P w K mg base ["pen","many","at","cell","found"] "_law_take" (zai zcp) ad cdv A outer s H E) (zbe zcp) (ze8 c):=by
  have hu:(A.deeper (envOfC "_law_take" (zai zcp) s.heap.objs.size ad cdv)).units+100 < cLine:=by have:=hr.un;omega
  exact unbox (zaj (zco (zdw hu .lt (zb1 (zag (i:=0) rfl (.inl rfl) rfl rfl) (zap) (fun _ _=>rfl)) (zag (i:=1) rfl (.inl rfl) rfl rfl) rfl) (zaj (zbi (zb1 (zag (i:=0) rfl (.inl rfl) rfl rfl) (zap) (fun _ _=>rfl)) (za0 (i:=2) nd3 rfl (.inl rfl) (.inl rfl)) rfl rfl rfl) (zaj (zbi (zap) (za0 (i:=3) nd3 rfl (.inl rfl) (.inl rfl)) rfl rfl rfl) (zaj (zco (zdw hu .lt (zag (i:=2) rfl (.inl rfl) rfl rfl) (zfb rfl T.b_len (zaf (zb1 (zag (i:=0) rfl (.inl rfl) rfl rfl) (zap) (fun _ _=>rfl)) (zas) rfl) rfl rfl) rfl) (zaj (zbi (zb1 (zb1 (zag (i:=0) rfl (.inl rfl) rfl rfl) (zap) (fun _ _=>rfl)) (zag (i:=2) rfl (.inl rfl) rfl rfl) (fun _ _=>rfl)) (za0 (i:=3) nd3 rfl (.inl rfl) (.inl rfl)) rfl rfl rfl) (zax)) (zaj (zco (zdw hu .gt (zfb rfl T.b_len (zaf (zb1 (zag (i:=0) rfl (.inl rfl) rfl rfl) (zap) (fun _ _=>rfl)) (zas) rfl) rfl rfl) (zap) rfl) (zaj (zbi (zau false .mod (zb1 (zb1 (zag (i:=0) rfl (.inl rfl) rfl rfl) (zap) (fun _ _=>rfl)) (zau false .mod (zau false .add (zau false .mul (zag (i:=2) rfl (.inl rfl) rfl rfl) (zap)) (zap)) (zfb rfl T.b_len (zaf (zb1 (zag (i:=0) rfl (.inl rfl) rfl rfl) (zap) (fun _ _=>rfl)) (zas) rfl) rfl rfl)) (fun _ _=>rfl)) (zau false .add (zau false .pow (zap) (zap)) (zag (i:=2) rfl (.inl rfl) rfl rfl))) (za0 (i:=3) nd3 rfl (.inl rfl) (.inl rfl)) rfl rfl rfl) (zax)) (zax)) (zax))) (zaj (zf2 (zag (i:=0) rfl (.inl rfl) rfl rfl) (zap) (zau false .add (zag (i:=2) rfl (.inl rfl) rfl rfl) (zap)) (fun _=>rfl) rfl rfl rfl) (zaj (zf2 (zag (i:=0) rfl (.inl rfl) rfl rfl) (zap) (zc2 28 C hr rfl T.f__law_spread (zaf (zag (i:=3) rfl (.inl rfl) rfl rfl) (zaf (zag (i:=2) rfl (.inl rfl) rfl rfl) (zas) rfl) rfl) rfl rfl rfl) (fun _=>rfl) rfl rfl rfl) (zax)))))) (zax)) (zaj (zbi (zau false .mod (zb1 (zag (i:=0) rfl (.inl rfl) rfl rfl) (zap) (fun _ _=>rfl)) (zag (i:=1) rfl (.inl rfl) rfl rfl)) (za0 (i:=4) nd3 rfl (.inl rfl) (.inl rfl)) rfl rfl rfl) (zaj (zf2 (zag (i:=0) rfl (.inl rfl) rfl rfl) (zap) (zau false .fdiv (zb1 (zag (i:=0) rfl (.inl rfl) rfl rfl) (zap) (fun _ _=>rfl)) (zag (i:=1) rfl (.inl rfl) rfl rfl)) (fun _=>rfl) rfl rfl rfl) (zaj (zbx (zag (i:=4) rfl (.inl rfl) rfl rfl)) (zax)))))
theorem zg6:zbw ["pen","others","all_signs","some"] ["pen","others"] (zai zbq):=⟨rfl,rfl,rfl,nd4,rfl,by decide +kernel,by decide +kernel⟩
include T C in
theorem zhx (hr:zbd (n+4) (A.deeper (envOfC "_law_sign_but" (zai zbq) s.heap.objs.size ad cdv))) :
    DSs fa (zca (CXE P w) P w K mg base ["pen","others","all_signs","some"] "_law_sign_but" (zai zbq) ad cdv A outer s H E) (zbe zbq) (zcy c):=by
  have hu:(A.deeper (envOfC "_law_sign_but" (zai zbq) s.heap.objs.size ad cdv)).units+100 < cLine:=by have:=hr.un;omega
  exact unbox (zaj (zbi (za9) (za0 (i:=2) nd4 rfl (.inl rfl) (.inl rfl)) rfl rfl rfl) (zaj (zbi (zau false .add (zag (i:=2) rfl (.inl rfl) rfl rfl) (za9)) (za0 (i:=2) nd4 rfl (.inl rfl) (.inl rfl)) rfl rfl rfl) (zaj (zob false (ze4 (own:=["sign"]) (bn:=["pen","others","all_signs","some"]) (sc:=zai zbq) (N:=["pen","others","all_signs","some"]) rfl rfl rfl (by decide +kernel)) rfl (zp0 (zag (i:=2) rfl (.inl rfl) rfl rfl)) (fun cl C0 fp s0 H0=>za0 (i:=0) nd5 rfl (.inl rfl) (.inr rfl)) (fun cl C0 fp s0 H0=>zdw hu .notin (zag (i:=0) rfl (.inl rfl) rfl rfl) (zag (i:=2) rfl (.inr (.inl rfl)) rfl rfl) rfl) (fun cl C0 fp s0 H0=>zag (i:=0) rfl (.inl rfl) rfl rfl) rfl (fun _=>rfl) nd4 rfl rfl rfl) (zaj (zbx (zb1 (zag (i:=3) rfl (.inl rfl) rfl rfl) (zc2 31 C hr rfl T.f__law_take (zaf (zag (i:=0) rfl (.inl rfl) rfl rfl) (zaf (zfb rfl T.b_len (zaf (zag (i:=3) rfl (.inl rfl) rfl rfl) (zas) rfl) rfl rfl) (zas) rfl) rfl) rfl rfl rfl) (fun _ _=>rfl))) (zax)))))
theorem zg7:zbw ["pen"] ["pen"] (zai zb0):=⟨rfl,rfl,rfl,nd6,rfl,by decide +kernel,by decide +kernel⟩
include T C in
theorem zhy (hr:zbd (n+4) (A.deeper (envOfC "_law_any_sign" (zai zb0) s.heap.objs.size ad cdv))) :
    DSs fa (zca (CXE P w) P w K mg base ["pen"] "_law_any_sign" (zai zb0) ad cdv A outer s H E) (zbe zb0) (zcz c):=by
  have hu:(A.deeper (envOfC "_law_any_sign" (zai zb0) s.heap.objs.size ad cdv)).units+100 < cLine:=by have:=hr.un;omega
  exact unbox (zaj (zbx (zc2 64 C hr rfl T.f__law_sign_but (zaf (zag (i:=0) rfl (.inl rfl) rfl rfl) (zaf (za9) (zas) rfl) rfl) rfl rfl rfl)) (zax))
theorem zlc:zbw ["found","due"] ["found","due"] (zai zcf):=⟨rfl,rfl,rfl,nd7,rfl,by decide +kernel,by decide +kernel⟩
include T C in
theorem zmi (hr:zbd (n+4) (A.deeper (envOfC "_law_same" (zai zcf) s.heap.objs.size ad cdv))) :
    DSs fa (zca (CXE P w) P w K mg base ["found","due"] "_law_same" (zai zcf) ad cdv A outer s H E) (zbe zcf) (zb5 c):=by
  have hu:(A.deeper (envOfC "_law_same" (zai zcf) s.heap.objs.size ad cdv)).units+100 < cLine:=by have:=hr.un;omega
  exact unbox (zaj (zco (zdw hu .isN (zag (i:=1) rfl (.inl rfl) rfl rfl) (zod) rfl) (zaj (zbx (zf3 hu .isN (zag (i:=0) rfl (.inl rfl) rfl rfl) (zod) rfl)) (zax)) (zax)) (zaj (zco (xq_w (zkm (zdv (zcw .bool (fun _ h=>nomatch h) (zag (i:=1) rfl (.inl rfl) rfl rfl) rfl T.b_isinstance rfl T.b_bool boot_bool (by decide) rfl rfl) (fun _=>rfl)) (zkz (zdv (zcw .bool (fun _ h=>nomatch h) (zag (i:=0) rfl (.inl rfl) rfl rfl) rfl T.b_isinstance rfl T.b_bool boot_bool (by decide) rfl rfl) (fun _=>rfl))))) (zaj (zbx (zhj (zcw .bool (fun _ h=>nomatch h) (zag (i:=1) rfl (.inl rfl) rfl rfl) rfl T.b_isinstance rfl T.b_bool boot_bool (by decide) rfl rfl) (zhj (zcw .bool (fun _ h=>nomatch h) (zag (i:=0) rfl (.inl rfl) rfl rfl) rfl T.b_isinstance rfl T.b_bool boot_bool (by decide) rfl rfl) (zkx (zf3 hu .eq (zag (i:=0) rfl (.inl rfl) rfl rfl) (zag (i:=1) rfl (.inl rfl) rfl rfl) rfl))))) (zax)) (zax)) (zaj (zco (zdv (zcw .int (fun _ h=>nomatch h) (zag (i:=1) rfl (.inl rfl) rfl rfl) rfl T.b_isinstance rfl T.b_int boot_int (by decide) rfl rfl) (fun _=>rfl)) (zaj (zbx (zhj (zcw .int (fun _ h=>nomatch h) (zag (i:=0) rfl (.inl rfl) rfl rfl) rfl T.b_isinstance rfl T.b_int boot_int (by decide) rfl rfl) (zkx (zf3 hu .eq (zag (i:=0) rfl (.inl rfl) rfl rfl) (zag (i:=1) rfl (.inl rfl) rfl rfl) rfl)))) (zax)) (zax)) (zaj (zco (zdv (zcw .str (fun _ h=>nomatch h) (zag (i:=1) rfl (.inl rfl) rfl rfl) rfl T.b_isinstance rfl T.b_str boot_str (by decide) rfl rfl) (fun _=>rfl)) (zaj (zbx (zhj (zcw .str (fun _ h=>nomatch h) (zag (i:=0) rfl (.inl rfl) rfl rfl) rfl T.b_isinstance rfl T.b_str boot_str (by decide) rfl rfl) (zkx (zf3 hu .eq (zag (i:=0) rfl (.inl rfl) rfl rfl) (zag (i:=1) rfl (.inl rfl) rfl rfl) rfl)))) (zax)) (zax)) (zaj (zco (xq_w (zkm (zdw hu .ne (zcw .tuple (fun _ h=>nomatch h) (zag (i:=1) rfl (.inl rfl) rfl rfl) rfl T.b_isinstance rfl T.b_tuple boot_tuple (by decide) rfl rfl) (zcw .tuple (fun _ h=>nomatch h) (zag (i:=0) rfl (.inl rfl) rfl rfl) rfl T.b_isinstance rfl T.b_tuple boot_tuple (by decide) rfl rfl) rfl) (zkz (zdw hu .ne (zcw .list (fun _ h=>nomatch h) (zag (i:=1) rfl (.inl rfl) rfl rfl) rfl T.b_isinstance rfl T.b_list boot_list (by decide) rfl rfl) (zcw .list (fun _ h=>nomatch h) (zag (i:=0) rfl (.inl rfl) rfl rfl) rfl T.b_isinstance rfl T.b_list boot_list (by decide) rfl rfl) rfl)))) (zaj (zbx (zhi)) (zax)) (zax)) (zaj (zco (zdw hu .ne (zfb rfl T.b_len (zaf (zag (i:=0) rfl (.inl rfl) rfl rfl) (zas) rfl) rfl rfl) (zfb rfl T.b_len (zaf (zag (i:=1) rfl (.inl rfl) rfl rfl) (zas) rfl) rfl rfl) rfl) (zaj (zbx (zhi)) (zax)) (zax)) (zaj (zbx (zf3 hu .notin (zhi) (zg1 false (ze4 (own:=["one","other"]) (bn:=["found","due"]) (sc:=zai zcf) (N:=["found","due"]) rfl rfl rfl (by decide +kernel)) rfl (zpz (zag (i:=0) rfl (.inl rfl) rfl rfl) (zag (i:=1) rfl (.inl rfl) rfl rfl) rfl T.b_zip rfl rfl) (fun cl C0 fp s0 H0=>zmo (l:=[0,1]) rfl nd8 (.cons rfl (.inl rfl) (.inr rfl) (.cons rfl (.inl rfl) (.inr rfl) (.nil)))) (fun cl C0 fp s0 H0=>zc2 40 C hr rfl T.f__law_same (zaf (zag (i:=0) rfl (.inl rfl) rfl rfl) (zaf (zag (i:=1) rfl (.inl rfl) rfl rfl) (zas) rfl) rfl) rfl rfl rfl) rfl (fun _=>rfl)) rfl)) (zax))))))))
theorem zho:zbw ["caught","some","words"] ["caught"] (zai zb7):=⟨rfl,rfl,rfl,nd9,rfl,by decide +kernel,by decide +kernel⟩
include T C in
theorem zir (hr:zbd (n+4) (A.deeper (envOfC "_law_refusal" (zai zb7) s.heap.objs.size ad cdv))) :
    DSs fa (zca (CXE P w) P w K mg base ["caught","some","words"] "_law_refusal" (zai zb7) ad cdv A outer s H E) (zbe zb7) (zc8 c):=by
  have hu:(A.deeper (envOfC "_law_refusal" (zai zb7) s.heap.objs.size ad cdv)).units+100 < cLine:=by have:=hr.un;omega
  exact unbox (zaj (zbi (za7 false (zaf (zb6 0 T.xc T.k_NoRow (zag (i:=0) rfl (.inl rfl) rfl rfl) rfl T.b_isinstance rfl rfl rfl) (zaf (zb6 1 T.xc T.k_NoRule (zag (i:=0) rfl (.inl rfl) rfl rfl) rfl T.b_isinstance rfl rfl rfl) (zaf (zb6 2 T.xc T.k_NoStep (zag (i:=0) rfl (.inl rfl) rfl rfl) rfl T.b_isinstance rfl rfl rfl) (zas) rfl) rfl) rfl)) (za0 (i:=1) nd9 rfl (.inl rfl) (.inl rfl)) rfl rfl rfl) (zaj (zbi (zau false .add (zag (i:=1) rfl (.inl rfl) rfl rfl) (za7 false (zaf (zb6 3 T.xc T.k_NoMachine (zag (i:=0) rfl (.inl rfl) rfl rfl) rfl T.b_isinstance rfl rfl rfl) (zaf (zb6 4 T.xc T.k_TooLong (zag (i:=0) rfl (.inl rfl) rfl rfl) rfl T.b_isinstance rfl rfl rfl) (zaf (zb6 5 T.xc T.k_NoWord (zag (i:=0) rfl (.inl rfl) rfl rfl) rfl T.b_isinstance rfl rfl rfl) (zas) rfl) rfl) rfl))) (za0 (i:=1) nd9 rfl (.inl rfl) (.inl rfl)) rfl rfl rfl) (zaj (zbi (zau false .add (zag (i:=1) rfl (.inl rfl) rfl rfl) (za7 false (zaf (zb6 6 T.xc T.k_NoWork (zag (i:=0) rfl (.inl rfl) rfl rfl) rfl T.b_isinstance rfl rfl rfl) (zaf (zb6 7 T.xc T.k_NoBound (zag (i:=0) rfl (.inl rfl) rfl rfl) rfl T.b_isinstance rfl rfl rfl) (zaf (zb6 8 T.xc T.k_TooMany (zag (i:=0) rfl (.inl rfl) rfl rfl) rfl T.b_isinstance rfl rfl rfl) (zas) rfl) rfl) rfl))) (za0 (i:=1) nd9 rfl (.inl rfl) (.inl rfl)) rfl rfl rfl) (zaj (zbi (zau false .add (zag (i:=1) rfl (.inl rfl) rfl rfl) (za7 false (zaf (zb6 9 T.xc T.k_NoPlace (zag (i:=0) rfl (.inl rfl) rfl rfl) rfl T.b_isinstance rfl rfl rfl) (zaf (zb6 10 T.xc T.k_NoDeed (zag (i:=0) rfl (.inl rfl) rfl rfl) rfl T.b_isinstance rfl rfl rfl) (zaf (zb6 11 T.xc T.k_Nothing (zag (i:=0) rfl (.inl rfl) rfl rfl) rfl T.b_isinstance rfl rfl rfl) (zas) rfl) rfl) rfl))) (za0 (i:=1) nd9 rfl (.inl rfl) (.inl rfl)) rfl rfl rfl) (zaj (zbi (zau false .add (zag (i:=1) rfl (.inl rfl) rfl rfl) (za7 false (zaf (zb6 12 T.xc T.k_NoText (zag (i:=0) rfl (.inl rfl) rfl rfl) rfl T.b_isinstance rfl rfl rfl) (zaf (zb6 13 T.xc T.k_NoLine (zag (i:=0) rfl (.inl rfl) rfl rfl) rfl T.b_isinstance rfl rfl rfl) (zas) rfl) rfl))) (za0 (i:=1) nd9 rfl (.inl rfl) (.inl rfl)) rfl rfl rfl) (zaj (zco (xq_w (zkm (zdw hu .ne (zsb (zag (i:=1) rfl (.inl rfl) rfl rfl) rfl rfl) (zap) rfl) (zkm (zk0 (zdv (zpx T.xc T.k_DeedError (zag (i:=0) rfl (.inl rfl) rfl rfl) rfl T.b_isinstance rfl rfl rfl) (fun _=>rfl))) (zkz (zk0 (zdv (zpw T.xc (zag (i:=0) rfl (.inl rfl) rfl rfl) rfl T.b_isinstance rfl T.b_ValueError rfl) (fun _=>rfl))))))) (zaj (zbx (za7 false (zaf (za9) (zas) rfl))) (zax)) (zax)) (zaj (zco (zdv (zb1 (zag (i:=1) rfl (.inl rfl) rfl rfl) (zap) (fun _ _=>rfl)) (fun _=>rfl)) (zaj (zbx (za7 false (zaf (za9) (zaf (zg2 "place" T.xc T.xf_place (zag (i:=0) rfl (.inl rfl) rfl rfl) rfl) (zas) rfl) rfl))) (zax)) (zax)) (zaj (zco (zdv (zb1 (zag (i:=1) rfl (.inl rfl) rfl rfl) (zap) (fun _ _=>rfl)) (fun _=>rfl)) (zaj (zbx (za7 false (zaf (za9) (zaf (zg2 "number" T.xc T.xf_number (zag (i:=0) rfl (.inl rfl) rfl rfl) rfl) (zas) rfl) rfl))) (zax)) (zax)) (zaj (zco (zdv (zb1 (zag (i:=1) rfl (.inl rfl) rfl rfl) (zap) (fun _ _=>rfl)) (fun _=>rfl)) (zaj (zbx (za7 false (zaf (za9) (zaf (zg2 "place" T.xc T.xf_place (zag (i:=0) rfl (.inl rfl) rfl rfl) rfl) (zas) rfl) rfl))) (zax)) (zax)) (zaj (zbi (za7 false (zaf (za9) (zaf (za9) (zaf (za9) (zaf (za9) (zaf (za9) (zaf (za9) (zaf (za9) (zaf (za9) (zaf (za9) (zaf (za9) (zaf (za9) (zas) rfl) rfl) rfl) rfl) rfl) rfl) rfl) rfl) rfl) rfl) rfl)) (za0 (i:=2) nd9 rfl (.inl rfl) (.inl rfl)) rfl rfl rfl) (zaj (zbx (za7 false (zaf (zb1 (zag (i:=2) rfl (.inl rfl) rfl rfl) (zau false .sub (zsa (zag (i:=1) rfl (.inl rfl) rfl rfl) rfl rfl) (zap)) (fun _ _=>rfl)) (zas) rfl))) (zax))))))))))))
theorem zow:zbw ["script","pen","turn","many","text","number","some","due"] ["script"] (zai zd3):=⟨rfl,rfl,rfl,zev,rfl,by decide +kernel,by decide +kernel⟩
include T C in
theorem p_law (hr:zbd (n+4) (A.deeper (envOfC "law" (zai zd3) s.heap.objs.size ad cdv))) :
    DSs fa (zca (CXE P w) P w K mg base ["script","pen","turn","many","text","number","some","due"] "law" (zai zd3) ad cdv A outer s H E) (zbe zd3) (zgv c):=by
  have hu:(A.deeper (envOfC "law" (zai zd3) s.heap.objs.size ad cdv)).units+100 < cLine:=by have:=hr.un;omega
  exact unbox (zaj (zbi (zc2 29 C hr rfl T.f__law_open (zaf (zag (i:=0) rfl (.inl rfl) rfl rfl) (zas) rfl) rfl rfl rfl) (za0 (i:=1) zev rfl (.inr rfl) (.inl rfl)) rfl rfl rfl) (zaj (zoa PassesOwn.leaving rfl (zk1 (zap) rfl T.b_range rfl) (za0 (i:=2) zev rfl (.inl rfl) (.inl rfl)) (zaj (zbi (zau false .add (zap) (zc2 31 C hr rfl T.f__law_take (zaf (zc2 30 C hr rfl T.f__law_anew (zaf (zag (i:=1) rfl (.inr (.inl rfl)) rfl rfl) (zas) rfl) rfl rfl rfl) (zaf (zap) (zas) rfl) rfl) rfl rfl rfl)) (za0 (i:=3) zev rfl (.inl rfl) (.inl rfl)) rfl rfl rfl) (zaj (zbi (zr9 "" (zg1 false (ze4 (own:=["k"]) (bn:=["script","pen","turn","many","text","number","some","due"]) (sc:=zai zd3) (N:=["script","pen","turn","many","text","number","some","due"]) rfl rfl rfl (by decide +kernel)) rfl (zk1 (zag (i:=3) rfl (.inl rfl) rfl rfl) rfl T.b_range rfl) (fun cl C0 fp s0 H0=>za0 (i:=0) nd12 rfl (.inl rfl) (.inr rfl)) (fun cl C0 fp s0 H0=>zc2 65 C hr rfl T.f__law_any_sign (zaf (zag (i:=2) rfl (.inr (.inl rfl)) rfl rfl) (zas) rfl) rfl rfl rfl) rfl (fun _=>rfl)) rfl rfl rfl rfl) (za0 (i:=4) zev rfl (.inl rfl) (.inl rfl)) rfl rfl rfl) (zaj (zbi (zau false .sub (zc2 31 C hr rfl T.f__law_take (zaf (zag (i:=1) rfl (.inr (.inl rfl)) rfl rfl) (zaf (zau false .pow (zap) (zap)) (zas) rfl) rfl) rfl rfl rfl) (zap)) (za0 (i:=5) zev rfl (.inl rfl) (.inl rfl)) rfl rfl rfl) (zaj (zbi (za7 false (zaf (zky 0 (T.i_NoRow P base) (zna hr) rfl rfl (zag (i:=5) rfl (.inl rfl) rfl rfl) rfl rfl) (zaf (zky 1 (T.i_NoRule P base) (zna hr) rfl rfl (zag (i:=5) rfl (.inl rfl) rfl rfl) rfl rfl) (zaf (zky 2 (T.i_NoStep P base) (zna hr) rfl rfl (zag (i:=5) rfl (.inl rfl) rfl rfl) rfl rfl) (zaf (zdi 3 T.km_NoMachine rfl rfl (zaf (zag (i:=4) rfl (.inl rfl) rfl rfl) (zas) rfl) rfl rfl rfl) (zaf (zdi 4 T.km_TooLong rfl rfl (zaf (zag (i:=4) rfl (.inl rfl) rfl rfl) (zas) rfl) rfl rfl rfl) (zaf (zdi 5 T.km_NoWord rfl rfl (zaf (zag (i:=4) rfl (.inl rfl) rfl rfl) (zas) rfl) rfl rfl rfl) (zas) rfl) rfl) rfl) rfl) rfl) rfl)) (za0 (i:=6) zev rfl (.inl rfl) (.inl rfl)) rfl rfl rfl) (zaj (zbi (zau false .add (zag (i:=6) rfl (.inl rfl) rfl rfl) (za7 false (zaf (zdi 6 T.km_NoWork rfl rfl (zaf (zag (i:=4) rfl (.inl rfl) rfl rfl) (zas) rfl) rfl rfl rfl) (zaf (zdi 7 T.km_NoBound rfl rfl (zaf (zag (i:=4) rfl (.inl rfl) rfl rfl) (zas) rfl) rfl rfl rfl) (zaf (zdi 8 T.km_TooMany rfl rfl (zaf (zag (i:=4) rfl (.inl rfl) rfl rfl) (zas) rfl) rfl rfl rfl) (zaf (zdi 9 T.km_NoPlace rfl rfl (zaf (zag (i:=4) rfl (.inl rfl) rfl rfl) (zas) rfl) rfl rfl rfl) (zaf (zdi 10 T.km_NoDeed rfl rfl (zaf (zag (i:=4) rfl (.inl rfl) rfl rfl) (zas) rfl) rfl rfl rfl) (zaf (zdi 11 T.km_Nothing rfl rfl (zaf (zag (i:=4) rfl (.inl rfl) rfl rfl) (zas) rfl) rfl rfl rfl) (zas) rfl) rfl) rfl) rfl) rfl) rfl))) (za0 (i:=6) zev rfl (.inl rfl) (.inl rfl)) rfl rfl rfl) (zaj (zbi (zau false .add (zag (i:=6) rfl (.inl rfl) rfl rfl) (za7 false (zaf (zdi 12 T.km_NoText rfl rfl (zaf (zag (i:=4) rfl (.inl rfl) rfl rfl) (zas) rfl) rfl rfl rfl) (zaf (zdi 13 T.km_NoLine rfl rfl (zaf (zag (i:=4) rfl (.inl rfl) rfl rfl) (zas) rfl) rfl rfl rfl) (zas) rfl) rfl))) (za0 (i:=6) zev rfl (.inl rfl) (.inl rfl)) rfl rfl rfl) (zaj (zbi (za7 false (zaf (za7 false (zaf (za9) (zaf (zag (i:=5) rfl (.inl rfl) rfl rfl) (zas) rfl) rfl)) (zaf (za7 false (zaf (za9) (zaf (zag (i:=5) rfl (.inl rfl) rfl rfl) (zas) rfl) rfl)) (zaf (za7 false (zaf (za9) (zaf (zag (i:=5) rfl (.inl rfl) rfl rfl) (zas) rfl) rfl)) (zaf (za7 false (zaf (za9) (zas) rfl)) (zaf (za7 false (zaf (za9) (zas) rfl)) (zaf (za7 false (zaf (za9) (zas) rfl)) (zaf (za7 false (zaf (za9) (zas) rfl)) (zas) rfl) rfl) rfl) rfl) rfl) rfl) rfl)) (za0 (i:=7) zev rfl (.inl rfl) (.inl rfl)) rfl rfl rfl) (zaj (zbi (zau false .add (zag (i:=7) rfl (.inl rfl) rfl rfl) (za7 false (zaf (za7 false (zaf (za9) (zas) rfl)) (zaf (za7 false (zaf (za9) (zas) rfl)) (zaf (za7 false (zaf (za9) (zas) rfl)) (zaf (za7 false (zaf (za9) (zas) rfl)) (zaf (za7 false (zaf (za9) (zas) rfl)) (zaf (za7 false (zaf (za9) (zas) rfl)) (zaf (za7 false (zaf (za9) (zas) rfl)) (zas) rfl) rfl) rfl) rfl) rfl) rfl) rfl))) (za0 (i:=7) zev rfl (.inl rfl) (.inl rfl)) rfl rfl rfl) (zaj (zco (zk0 (zdv (zc2 40 C hr rfl T.f__law_same (zaf (zg1 false (ze4 (own:=["one"]) (bn:=["script","pen","turn","many","text","number","some","due"]) (sc:=zai zd3) (N:=["script","pen","turn","many","text","number","some","due"]) rfl rfl rfl (by decide +kernel)) rfl (zsd (zag (i:=6) rfl (.inl rfl) rfl rfl)) (fun cl C0 fp s0 H0=>za0 (i:=0) nd11 rfl (.inl rfl) (.inr rfl)) (fun cl C0 fp s0 H0=>zc2 75 C hr rfl T.f__law_refusal (zaf (zag (i:=0) rfl (.inl rfl) rfl rfl) (zas) rfl) rfl rfl rfl) rfl (fun _=>rfl)) (zaf (zag (i:=7) rfl (.inl rfl) rfl rfl) (zas) rfl) rfl) rfl rfl rfl) (fun _=>rfl))) (zaj (zbx (zhi)) (zax)) (zax)) (zax)))))))))) (fun _=>rfl)) (zaj (zbx (zhi)) (zax))))
end
end K08
namespace K08
open PySem PySem.Spec PyProof.Rows L2 LD
theorem zqv:∀ ns:List Int,ns.length≤63->∃ M,za3 Pg 40 78 [.frz (ns.map D.int)] []=.ok (.bl true) M:=law08 (by repeat' (first | rfl | constructor))
abbrev faOf (l:List (Nat×Addr)):Fa:=LD.faX l [(0,44),(1,63),(2,82),(3,94),(4,106),(5,118),(6,130),(7,142),(8,154),(9,166),(10,178),(11,190),(12,202),(13,214)] 24
section
variable {P:Program}{w:World}{K:PySem.W.Frag}{mg:Str->Option Value}{base:Heap}{f28 f29 f30 f31 f64 f65 f40 f75 f78:Addr}{fd28 fd29 fd30 fd31 fd64 fd65 fd40 fd75 fd78:FuncData}
theorem usb1 {F:FuncData}{z:List Str} (h:∀ a:Value,bindArgs F ⟨[a],[]⟩=pure (z.zip [a])):∀ us:List Value,us.length=1->bindArgs F ⟨us,[]⟩=pure (z.zip us):=LD.us1 h
theorem usb2 {F:FuncData}{z:List Str} (h:∀ a b:Value,bindArgs F ⟨[a,b],[]⟩=pure (z.zip [a,b])):∀ us:List Value,us.length=2->bindArgs F ⟨us,[]⟩=pure (z.zip us):=LD.us2 h
theorem mkf {h:Heap} (x:Str) (st:PySem.Stmt) (f c:Addr) (pm:Str) (t:Tok) (X:K.In h) (G:h.Ns mainGlobals mg) (a:PySem.W.nsIn K mainGlobals x=some (some (.ref f))) (l:K.lookup f=some ⟨.type "function",none,.func (PySem.W.fnOf x x (zds st) (zbe st) (zai st) .none .none .none (.str pm t) none (.ref c) .none),#[]⟩) (e:PySem.W.codeIn K (.ref c) x=true) (k:PySem.W.keepIn K (.ref f)=true):∃ f fd,mg x=some (.ref f) /\ Fun K x x st f fd:=LD.mk_fn X G a l e k
theorem mkd {k i j:Nat}{b:Call->GS}{ps ns:List Str}{st:PySem.Stmt}{x:Str}{fa:Fa}{f:Addr}{fd:FuncData} (sc:zbw ns ps (zai st)) (hf:fa k=some f) (F:Fun K x x st f fd) (hb:Binds K fd ps []) (h1:i=ps.length) (h2:j=ns.length)
    (p:∀ (c:Call) (n:Nat) (cdv:Value) (A:Around) (outer:List PySem.Env) (s:Shared) (H:Hp) (E:XK),(∀ f,zee fa P w K mg base n f (c f))->zbd (n+4) (A.deeper (envOfC x (zai st) s.heap.objs.size f cdv))->DSs fa (zca (CXE P w) P w K mg base ns x (zai st) f cdv A outer s H E) (zbe st) (b c)):zku fa P w K mg base k ⟨i,j,b⟩:=⟨f,fd,ps,ns,st,x,x,hf,F,hb,sc,h1,h2,p⟩
set_option maxHeartbeats 0 in
theorem ztz (F28:Fun K "_law_spread" "_law_spread" zcc f28 fd28) (F29:Fun K "_law_open" "_law_open" zcq f29 fd29) (F30:Fun K "_law_anew" "_law_anew" zcr f30 fd30) (F31:Fun K "_law_take" "_law_take" zcp f31 fd31) (F64:Fun K "_law_sign_but" "_law_sign_but" zbq f64 fd64) (F65:Fun K "_law_any_sign" "_law_any_sign" zb0 f65 fd65) (F40:Fun K "_law_same" "_law_same" zcf f40 fd40) (F75:Fun K "_law_refusal" "_law_refusal" zb7 f75 fd75) (F78:Fun K "law" "law" zd3 f78 fd78) (T:Txt K w mg (faOf [(28,f28),(29,f29),(30,f30),(31,f31),(64,f64),(65,f65),(40,f40),(75,f75),(78,f78)])):∀ f d,Pg f=some d->zku (faOf [(28,f28),(29,f29),(30,f30),(31,f31),(64,f64),(65,f65),(40,f40),(75,f75),(78,f78)]) P w K mg base f d:=fun f d e=>by
  match f,e with
  | 0,e=>cases e
  | 1,e=>cases e
  | 2,e=>cases e
  | 3,e=>cases e
  | 4,e=>cases e
  | 5,e=>cases e
  | 6,e=>cases e
  | 7,e=>cases e
  | 8,e=>cases e
  | 9,e=>cases e
  | 10,e=>cases e
  | 11,e=>cases e
  | 12,e=>cases e
  | 13,e=>cases e
  | 14,e=>cases e
  | 15,e=>cases e
  | 16,e=>cases e
  | 17,e=>cases e
  | 18,e=>cases e
  | 19,e=>cases e
  | 20,e=>cases e
  | 21,e=>cases e
  | 22,e=>cases e
  | 23,e=>cases e
  | 24,e=>cases e
  | 25,e=>cases e
  | 26,e=>cases e
  | 27,e=>cases e
  | 28,e=>cases e;exact mkd zio rfl F28 (F28.binds fun _ _ _ _ _ _=>usb2 fun _ _=>rfl) rfl rfl (zkd T)
  | 29,e=>cases e;exact mkd zld rfl F29 (F29.binds fun _ _ _ _ _ _=>usb1 fun _=>rfl) rfl rfl (zmj T)
  | 30,e=>cases e;exact mkd zle rfl F30 (F30.binds fun _ _ _ _ _ _=>usb1 fun _=>rfl) rfl rfl (zmk T)
  | 31,e=>cases e;exact mkd zlb rfl F31 (F31.binds fun _ _ _ _ _ _=>usb2 fun _ _=>rfl) rfl rfl (zmh T)
  | 32,e=>cases e
  | 33,e=>cases e
  | 34,e=>cases e
  | 35,e=>cases e
  | 36,e=>cases e
  | 37,e=>cases e
  | 38,e=>cases e
  | 39,e=>cases e
  | 40,e=>cases e;exact mkd zlc rfl F40 (F40.binds fun _ _ _ _ _ _=>usb2 fun _ _=>rfl) rfl rfl (zmi T)
  | 41,e=>cases e
  | 42,e=>cases e
  | 43,e=>cases e
  | 44,e=>cases e
  | 45,e=>cases e
  | 46,e=>cases e
  | 47,e=>cases e
  | 48,e=>cases e
  | 49,e=>cases e
  | 50,e=>cases e
  | 51,e=>cases e
  | 52,e=>cases e
  | 53,e=>cases e
  | 54,e=>cases e
  | 55,e=>cases e
  | 56,e=>cases e
  | 57,e=>cases e
  | 58,e=>cases e
  | 59,e=>cases e
  | 60,e=>cases e
  | 61,e=>cases e
  | 62,e=>cases e
  | 63,e=>cases e
  | 64,e=>cases e;exact mkd zg6 rfl F64 (F64.binds fun _ _ _ _ _ _=>usb2 fun _ _=>rfl) rfl rfl (zhx T)
  | 65,e=>cases e;exact mkd zg7 rfl F65 (F65.binds fun _ _ _ _ _ _=>usb1 fun _=>rfl) rfl rfl (zhy T)
  | 66,e=>cases e
  | 67,e=>cases e
  | 68,e=>cases e
  | 69,e=>cases e
  | 70,e=>cases e
  | 71,e=>cases e
  | 72,e=>cases e
  | 73,e=>cases e
  | 74,e=>cases e
  | 75,e=>cases e;exact mkd zho rfl F75 (F75.binds fun _ _ _ _ _ _=>usb1 fun _=>rfl) rfl rfl (zir T)
  | 76,e=>cases e
  | 77,e=>cases e
  | 78,e=>cases e;exact mkd zow rfl F78 (F78.binds fun _ _ _ _ _ _=>usb1 fun _=>rfl) rfl rfl (p_law T)
  | k+79,e=>cases e
end
end K08
open PySem PySem.W PyProof.Rows
set_option maxRecDepth 100000 in
set_option maxHeartbeats 0 in
theorem PySem.Challenge.cw_leastdeeds_k08_refusals_apart_holds : PySem.Challenge.rw_leastdeeds_k08_refusals_apart.Holds := by
  w_on;o_law
  refine PySem.W.holds_open (r:=K08.krow) (q:=K08.kq) (loose:=K08.zh5) (Xt:=fun s=>PySem.W.xlAt K08.kq [] s&&PySem.W.recOk (PySem.W.RowW.records K08.krow.toRowW) s) (XP:=PySem.W.XL K08.kq []) (Yf:=K08.kH.obs) (Ya:=K08.kH.val) (YP:=K08.kH.says) (N:=7222) K08.kleft K08.kH.of K08.kH.keeps (fun s e=>PySem.W.xl_of s (Bool.and_eq_true_iff.mp e).1) PySem.W.XL.keeps (by rfl) (by rfl) (by rfl) (fun s e=>PySem.W.recFacts_of (Bool.and_eq_true_iff.mp e).2) (by rfl) (by first | assumption | decide +kernel) (by decide +kernel) ⟨rfl,rfl,rfl,rfl,rfl,by decide +kernel⟩ ?hw ?hc
  case hw=>w_witness2
  refine L2.zse (l:=PySem.Challenge.rw_leastdeeds_k08_refusals_apart) (n:=63) (k:=44) (x:="script") (CX:=fun w=>LD.CXE PySem.Challenge.rw_leastdeeds_k08_refusals_apart.prog w) (K:=K08.kh) (sp:=fun w=>LD.spLaw (K08.kh w.params)) rfl (by decide) rfl ⟨rfl,by decide,by decide⟩ (fun w h Y=>PySem.W.kIn_of Y) ?F (fun w H a ns hl hO hS=>⟨a,ns,rfl,hS,hO,hl,fun _=>rfl⟩) (fun _ _ _ _ _ z=>let ⟨_,_,_,_,_,_,_,_,_,_,q⟩:=z;q)
  case F=>
    intro w mg fa h KX G hmg
    obtain ⟨f28,fd28,m28,F28⟩:=K08.mkf "_law_spread" K08.zcc 223 222 "law_leastdeeds_k08_refusals_apart" 458 KX G (by kernel_rfl) (by kernel_rfl) (by kernel_rfl) (by kernel_rfl)
    obtain ⟨f29,fd29,m29,F29⟩:=K08.mkf "_law_open" K08.zcq 230 229 "law_leastdeeds_k08_refusals_apart" 458 KX G (by kernel_rfl) (by kernel_rfl) (by kernel_rfl) (by kernel_rfl)
    obtain ⟨f30,fd30,m30,F30⟩:=K08.mkf "_law_anew" K08.zcr 237 236 "law_leastdeeds_k08_refusals_apart" 458 KX G (by kernel_rfl) (by kernel_rfl) (by kernel_rfl) (by kernel_rfl)
    obtain ⟨f31,fd31,m31,F31⟩:=K08.mkf "_law_take" K08.zcp 244 243 "law_leastdeeds_k08_refusals_apart" 458 KX G (by kernel_rfl) (by kernel_rfl) (by kernel_rfl) (by kernel_rfl)
    obtain ⟨f64,fd64,m64,F64⟩:=K08.mkf "_law_sign_but" K08.zbq 249 248 "law_leastdeeds_k08_refusals_apart" 458 KX G (by kernel_rfl) (by kernel_rfl) (by kernel_rfl) (by kernel_rfl)
    obtain ⟨f65,fd65,m65,F65⟩:=K08.mkf "_law_any_sign" K08.zb0 256 255 "law_leastdeeds_k08_refusals_apart" 458 KX G (by kernel_rfl) (by kernel_rfl) (by kernel_rfl) (by kernel_rfl)
    obtain ⟨f40,fd40,m40,F40⟩:=K08.mkf "_law_same" K08.zcf 261 260 "law_leastdeeds_k08_refusals_apart" 458 KX G (by kernel_rfl) (by kernel_rfl) (by kernel_rfl) (by kernel_rfl)
    obtain ⟨f75,fd75,m75,F75⟩:=K08.mkf "_law_refusal" K08.zb7 268 267 "law_leastdeeds_k08_refusals_apart" 458 KX G (by kernel_rfl) (by kernel_rfl) (by kernel_rfl) (by kernel_rfl)
    obtain ⟨f78,fd78,m78,F78⟩:=K08.mkf "law" K08.zd3 273 272 "law_leastdeeds_k08_refusals_apart" 458 KX G (by kernel_rfl) (by kernel_rfl) (by kernel_rfl) (by kernel_rfl)
    have z_ValueError:mg "ValueError"=none:=LD.zdj KX G (by kernel_rfl)
    have z_bool:mg "bool"=none:=LD.zdj KX G (by kernel_rfl)
    have z_enumerate:mg "enumerate"=none:=LD.zdj KX G (by kernel_rfl)
    have z_int:mg "int"=none:=LD.zdj KX G (by kernel_rfl)
    have z_isinstance:mg "isinstance"=none:=LD.zdj KX G (by kernel_rfl)
    have z_len:mg "len"=none:=LD.zdj KX G (by kernel_rfl)
    have z_list:mg "list"=none:=LD.zdj KX G (by kernel_rfl)
    have z_range:mg "range"=none:=LD.zdj KX G (by kernel_rfl)
    have z_str:mg "str"=none:=LD.zdj KX G (by kernel_rfl)
    have z_tuple:mg "tuple"=none:=LD.zdj KX G (by kernel_rfl)
    have z_zip:mg "zip"=none:=LD.zdj KX G (by kernel_rfl)
    have i_NoRow:=LD.zhd (fa:=K08.faOf [(28,f28),(29,f29),(30,f30),(31,f31),(64,f64),(65,f65),(40,f40),(75,f75),(78,f78)]) (w:=w) (c:=0) (x:="NoRow") (qual:="NoRow.__init__") (y:="place") (z:="no deed's number at place ") (pm:="leastdeeds.errors") (t:=187) (st:=K08.zqc) (C:=44) (D:=24) (fI:=41) (cd:=40) KX G (by kernel_rfl) (by kernel_rfl) rfl (by kernel_rfl) (by kernel_rfl) (by kernel_rfl) (by kernel_rfl) ⟨rfl,rfl,rfl,by decide +kernel,rfl,by decide +kernel,by decide +kernel⟩ rfl (fun _ _=>⟨_,rfl⟩) (by decide +kernel) rfl rfl rfl rfl (fun _ _=>rfl) (fun _ _ _ _ _ _ _ _=>rfl)
    have i_NoRule:=LD.zhd (fa:=K08.faOf [(28,f28),(29,f29),(30,f30),(31,f31),(64,f64),(65,f65),(40,f40),(75,f75),(78,f78)]) (w:=w) (c:=1) (x:="NoRule") (qual:="NoRule.__init__") (y:="number") (z:="no rule that holds: number ") (pm:="leastdeeds.errors") (t:=187) (st:=K08.zor) (C:=63) (D:=24) (fI:=60) (cd:=59) KX G (by kernel_rfl) (by kernel_rfl) rfl (by kernel_rfl) (by kernel_rfl) (by kernel_rfl) (by kernel_rfl) ⟨rfl,rfl,rfl,by decide +kernel,rfl,by decide +kernel,by decide +kernel⟩ rfl (fun _ _=>⟨_,rfl⟩) (by decide +kernel) rfl rfl rfl rfl (fun _ _=>rfl) (fun _ _ _ _ _ _ _ _=>rfl)
    have i_NoStep:=LD.zhd (fa:=K08.faOf [(28,f28),(29,f29),(30,f30),(31,f31),(64,f64),(65,f65),(40,f40),(75,f75),(78,f78)]) (w:=w) (c:=2) (x:="NoStep") (qual:="NoStep.__init__") (y:="place") (z:="no step that can be done at place ") (pm:="leastdeeds.errors") (t:=187) (st:=K08.zoq) (C:=82) (D:=24) (fI:=79) (cd:=78) KX G (by kernel_rfl) (by kernel_rfl) rfl (by kernel_rfl) (by kernel_rfl) (by kernel_rfl) (by kernel_rfl) ⟨rfl,rfl,rfl,by decide +kernel,rfl,by decide +kernel,by decide +kernel⟩ rfl (fun _ _=>⟨_,rfl⟩) (by decide +kernel) rfl rfl rfl rfl (fun _ _=>rfl) (fun _ _ _ _ _ _ _ _=>rfl)
    have T:=K08.Txt.mk (w:=w) (fa:=K08.faOf [(28,f28),(29,f29),(30,f30),(31,f31),(64,f64),(65,f65),(40,f40),(75,f75),(78,f78)]) (z_ValueError) (z_bool) (z_enumerate) (z_int) (z_isinstance) (z_len) (z_list) (z_range) (z_str) (z_tuple) (z_zip) (LD.xcs_of (by kernel_rfl)) (⟨24,LD.zbn (x:="DeedError") (f:=24) KX G (by kernel_rfl),rfl⟩) (⟨44,LD.zbn (x:="NoRow") (f:=44) KX G (by kernel_rfl),rfl⟩) (⟨63,LD.zbn (x:="NoRule") (f:=63) KX G (by kernel_rfl),rfl⟩) (⟨82,LD.zbn (x:="NoStep") (f:=82) KX G (by kernel_rfl),rfl⟩) (⟨94,LD.zbn (x:="NoMachine") (f:=94) KX G (by kernel_rfl),rfl⟩) (⟨106,LD.zbn (x:="TooLong") (f:=106) KX G (by kernel_rfl),rfl⟩) (⟨118,LD.zbn (x:="NoWord") (f:=118) KX G (by kernel_rfl),rfl⟩) (⟨130,LD.zbn (x:="NoWork") (f:=130) KX G (by kernel_rfl),rfl⟩) (⟨142,LD.zbn (x:="NoBound") (f:=142) KX G (by kernel_rfl),rfl⟩) (⟨154,LD.zbn (x:="TooMany") (f:=154) KX G (by kernel_rfl),rfl⟩) (⟨166,LD.zbn (x:="NoPlace") (f:=166) KX G (by kernel_rfl),rfl⟩) (⟨178,LD.zbn (x:="NoDeed") (f:=178) KX G (by kernel_rfl),rfl⟩) (⟨190,LD.zbn (x:="Nothing") (f:=190) KX G (by kernel_rfl),rfl⟩) (⟨202,LD.zbn (x:="NoText") (f:=202) KX G (by kernel_rfl),rfl⟩) (⟨214,LD.zbn (x:="NoLine") (f:=214) KX G (by kernel_rfl),rfl⟩) (⟨94,LD.zbn (x:="NoMachine") (f:=94) KX G (by kernel_rfl),rfl,by kernel_rfl,by kernel_rfl⟩) (⟨106,LD.zbn (x:="TooLong") (f:=106) KX G (by kernel_rfl),rfl,by kernel_rfl,by kernel_rfl⟩) (⟨118,LD.zbn (x:="NoWord") (f:=118) KX G (by kernel_rfl),rfl,by kernel_rfl,by kernel_rfl⟩) (⟨130,LD.zbn (x:="NoWork") (f:=130) KX G (by kernel_rfl),rfl,by kernel_rfl,by kernel_rfl⟩) (⟨142,LD.zbn (x:="NoBound") (f:=142) KX G (by kernel_rfl),rfl,by kernel_rfl,by kernel_rfl⟩) (⟨154,LD.zbn (x:="TooMany") (f:=154) KX G (by kernel_rfl),rfl,by kernel_rfl,by kernel_rfl⟩) (⟨166,LD.zbn (x:="NoPlace") (f:=166) KX G (by kernel_rfl),rfl,by kernel_rfl,by kernel_rfl⟩) (⟨178,LD.zbn (x:="NoDeed") (f:=178) KX G (by kernel_rfl),rfl,by kernel_rfl,by kernel_rfl⟩) (⟨190,LD.zbn (x:="Nothing") (f:=190) KX G (by kernel_rfl),rfl,by kernel_rfl,by kernel_rfl⟩) (⟨202,LD.zbn (x:="NoText") (f:=202) KX G (by kernel_rfl),rfl,by kernel_rfl,by kernel_rfl⟩) (⟨214,LD.zbn (x:="NoLine") (f:=214) KX G (by kernel_rfl),rfl,by kernel_rfl,by kernel_rfl⟩) (i_NoRow) (i_NoRule) (i_NoStep) (LD.zoe (by kernel_rfl)) (LD.zoe (by kernel_rfl)) (fun ad h=>by cases h;exact m28) (fun ad h=>by cases h;exact m29) (fun ad h=>by cases h;exact m30) (fun ad h=>by cases h;exact m31) (fun ad h=>by cases h;exact m40) (fun ad h=>by cases h;exact m64) (fun ad h=>by cases h;exact m65) (fun ad h=>by cases h;exact m75)
    have e:=hmg.symm.trans m78
    cases e
    exact ⟨fd78,fun s v=>by
      obtain ⟨oc,od,kV,doc,pm,an,cdv,ct,osl,rfl,lk,hcd⟩:=F78.ex
      exact .of_eq rfl,fun base _ _=>LD.law_fn (n:=39) (f:=78) (K08.ztz F28 F29 F30 F31 F64 F65 F40 F75 F78 T) K08.zqv rfl F78 K08.zow rfl fun c n cdv A outer s H E C hr=>K08.p_law T c n cdv A outer s H E C hr⟩
