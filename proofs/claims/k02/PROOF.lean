import PyProof.Rows.All
import Wide.All
import OpenK.AllK
import Wide.FinOn
import Lean
import PyProof.EqAt
import PyProof.EqKinds
import PyProof.TupleCall
import PyProof.StrOps
import PySem.Challenge.RW_leastdeeds_k02_beginnings_in_order
set_option Elab.async false
set_option linter.all false
set_option maxRecDepth 100000
set_option maxHeartbeats 0
noncomputable section
namespace HD
open PySem PySem.W
def zi2 (tb:String->Option Builtin) (p:Program) (w:World) (n0:Nat) (ann:Option Value):Nat->SharedT->Thread->Option SharedT
  | 0,_,_=>none
  | n + 1, s, t => match through t with
    | true=>some s
    | false => match stepOk n0 ann t with
      | false=>none
      | true => match stepT (denote tb) p w s t with
        | some (s',t')=>zi2 tb p w n0 ann n s' t'
        | none=>none
theorem zn4 {tb:String->Option Builtin}{p:Program}{w:World}{n0:Nat}{ann:Option Value}:∀ {n:Nat}{s s':SharedT}{t:Thread},zi2 tb p w n0 ann n s t=some s'->topRun tb p w n0 ann n s.abs t=some s'.abs
  | 0,_,_,_,h=>by cases h
  | n + 1, s, s', t, h => by
    unfold zi2 at h
    unfold topRun
    cases he:through t with
    | true=>rw [he] at h;cases h;rfl
    | false =>
      rw [he] at h
      cases hk:stepOk n0 ann t with
      | false=>rw [hk] at h;cases h
      | true =>
        rw [hk] at h
        cases hs:stepT (denote tb) p w s t with
        | none=>rw [hs] at h;cases h
        | some r=>obtain ⟨s2,t2⟩:=r;rw [hs] at h;rw [stepT_spec hs];exact zn4 h
def treeOf:List Obj->Nat->BT->BT
  | [],_,t=>t
  | o::r,n,t=>treeOf r (n+1) (t.ins n o)
def zub (P:Params) (os:OsState):SharedT:=⟨treeOf (boot_heap P).objs.toList 0 .nil,(boot_heap P).objs.toList.length,(boot_heap P).life,#[],boot_drawn,boot_toks,os⟩
theorem boot_abs (P:Params) (os:OsState):(zub P os).abs=⟨boot_heap P,#[],boot_drawn,boot_toks,os⟩:=by kernel_rfl
def ztp (p q:Program) (loose:List Str) (Xt:Shared->Bool) (g0:Bool) (h0:Heap) {α:Type} (Yf:Shared->α) (s:Shared):=
  ((staticsOk (importedModules p.main.body) h0 s.heap&&namesBound p s.heap&&gensDone s&&laidKept h0 s.heap),openSeen q loose (importedModules p.main.body) Xt g0 s,Yf s)
theorem zqv {p q:Program}{loose:List Str}{Xt:Shared->Bool}{α:Type}{Yf:Shared->α}{Ya:World->α}{N:Nat}{g0:Bool}{m0:Nat}{ann:Option Value}
    (open_:∀ w:World,(fencedOpening treeTable p w N).map (fun s=>(s.heap,s.gens,s.drawn,s.toks))=some (boot_heap w.params,Array.mk [],boot_drawn,boot_toks))
    (size:∀ w:World,((boot_heap w.params).isNs mainGlobals&&(Array.mk ([]:List GenState)).size==0,(boot_heap w.params).objs.size,(boot_heap w.params).nsMap mainGlobals "__annotations__")=(true,m0,ann))
    (run:∀ (w:World) (os:OsState),(zi2 treeTable p w m0 ann N (zub w.params os) (topStub p)).map (fun s=>ztp p q loose Xt g0 (boot_heap w.params) Yf s.abs)=some (true,openGood q loose,Ya w)):LeftO p q loose Xt Yf Ya N g0:=fun w=>by
  obtain ⟨⟨h,gs,d,k,os⟩,e,e'⟩:=Option.map_eq_some_iff.mp (open_ w)
  obtain ⟨rfl,rfl,rfl,rfl⟩:h=boot_heap w.params /\ gs=Array.mk [] /\ d=boot_drawn /\ k=boot_toks:=by simpa using e'
  obtain ⟨z1,z2,z3⟩:_ /\ _ /\ _:=by simpa only [Prod.mk.injEq] using size w
  obtain ⟨s1,r,l⟩:=Option.map_eq_some_iff.mp (run w os)
  obtain ⟨l1,l2,l3⟩:_ /\ _ /\ _:=by simpa only [ztp,Prod.mk.injEq] using l
  have r:=zn4 r
  rw [boot_abs] at r
  have t:topFrom treeTable p w N ⟨boot_heap w.params,Array.mk [],boot_drawn,boot_toks,os⟩=some s1.abs:=by
    unfold topFrom
    dsimp only
    rw [z1,z2,z3,r]
    show (match staticsOk (importedModules p.main.body) (boot_heap w.params) s1.abs.heap&&namesBound p s1.abs.heap&&gensDone s1.abs&&laidKept (boot_heap w.params) s1.abs.heap with | true=>_ | false=>_)=_
    rw [l1]
  unfold openEnds
  rw [e]
  show (topFrom treeTable p w N _).map _=_
  rw [t]
  exact congrArg some (Prod.ext l2 l3)
end HD
namespace K02
open PySem
def zay (i:Nat):PySem.Stmt:=PySem.Challenge.pw_leastdeeds_k02_beginnings_in_order.main.body.getD i (.Pass ⟨0,0,0,0⟩)
def zcb (s:PySem.Stmt):PySem.Arguments:=match s with
  | .FunctionDef _ a _ _ _ _ _ _ _ _=>a
  | _=>⟨[],[],none,[],[],none,[]⟩
def zca (s:PySem.Stmt):List PySem.Stmt:=match s with
  | .FunctionDef _ _ b _ _ _ _ _ _ _=>b
  | _=>[]
def zbx (s:PySem.Stmt):PySem.Scope:=match s with
  | .FunctionDef _ _ _ _ _ _ sc _ _ _=>sc
  | _=>{kind:=.function,names:=[],isGenerator:=false,isCoroutine:=false}
def kh:PySem.Params->PySem.W.Frag:=fun P=>[(3,{cls:=.type "dict",data:=.dict #[⟨PySem.PyData.keyHash P "__name__",.str "__name__" 165,.str "law_leastdeeds_k02_beginnings_in_order" 612⟩,⟨PySem.PyData.keyHash P "__doc__",.str "__doc__" 166,.none⟩,⟨PySem.PyData.keyHash P "__package__",.str "__package__" 167,.none⟩,⟨PySem.PyData.keyHash P "__loader__",.str "__loader__" 168,.builtin "__main__.__loader__#opaque"⟩,⟨PySem.PyData.keyHash P "__spec__",.str "__spec__" 169,.none⟩,⟨PySem.PyData.keyHash P "__annotations__",.str "__annotations__" 170,.ref 6⟩,⟨PySem.PyData.keyHash P "__builtins__",.str "__builtins__" 171,.ref 4⟩,⟨PySem.PyData.keyHash P "__file__",.str "__file__" 173,.str "/claim/cut.py" 172⟩,⟨PySem.PyData.keyHash P "__cached__",.str "__cached__" 174,.none⟩,⟨PySem.PyData.keyHash P "DeedError",.str "DeedError" 206,.ref 24⟩,⟨PySem.PyData.keyHash P "NoRow",.str "NoRow" 231,.ref 44⟩,⟨PySem.PyData.keyHash P "NoRule",.str "NoRule" 256,.ref 63⟩,⟨PySem.PyData.keyHash P "NoStep",.str "NoStep" 281,.ref 82⟩,⟨PySem.PyData.keyHash P "NoMachine",.str "NoMachine" 297,.ref 94⟩,⟨PySem.PyData.keyHash P "TooLong",.str "TooLong" 313,.ref 106⟩,⟨PySem.PyData.keyHash P "NoWord",.str "NoWord" 329,.ref 118⟩,⟨PySem.PyData.keyHash P "NoWork",.str "NoWork" 345,.ref 130⟩,⟨PySem.PyData.keyHash P "NoBound",.str "NoBound" 361,.ref 142⟩,⟨PySem.PyData.keyHash P "TooMany",.str "TooMany" 377,.ref 154⟩,⟨PySem.PyData.keyHash P "NoPlace",.str "NoPlace" 393,.ref 166⟩,⟨PySem.PyData.keyHash P "NoDeed",.str "NoDeed" 409,.ref 178⟩,⟨PySem.PyData.keyHash P "Nothing",.str "Nothing" 425,.ref 190⟩,⟨PySem.PyData.keyHash P "NoText",.str "NoText" 441,.ref 202⟩,⟨PySem.PyData.keyHash P "NoLine",.str "NoLine" 457,.ref 214⟩,⟨PySem.PyData.keyHash P "is_between",.str "is_between" 468,.ref 223⟩,⟨PySem.PyData.keyHash P "LEAST_WORDS",.str "LEAST_WORDS" 472,.int 2 471⟩,⟨PySem.PyData.keyHash P "MOST_WORDS",.str "MOST_WORDS" 474,.int 4 473⟩,⟨PySem.PyData.keyHash P "MOST_PLACES",.str "MOST_PLACES" 476,.int 2 475⟩,⟨PySem.PyData.keyHash P "MOST_DEEDS",.str "MOST_DEEDS" 478,.int 6 477⟩,⟨PySem.PyData.keyHash P "MOST_COST",.str "MOST_COST" 480,.int 3 479⟩,⟨PySem.PyData.keyHash P "is_word",.str "is_word" 488,.ref 230⟩,⟨PySem.PyData.keyHash P "is_place",.str "is_place" 496,.ref 237⟩,⟨PySem.PyData.keyHash P "is_cost",.str "is_cost" 503,.ref 244⟩,⟨PySem.PyData.keyHash P "is_tuple_of",.str "is_tuple_of" 511,.ref 251⟩,⟨PySem.PyData.keyHash P "is_table",.str "is_table" 517,.ref 256⟩,⟨PySem.PyData.keyHash P "is_double_table",.str "is_double_table" 523,.ref 261⟩,⟨PySem.PyData.keyHash P "is_turn",.str "is_turn" 535,.ref 268⟩,⟨PySem.PyData.keyHash P "is_join",.str "is_join" 548,.ref 275⟩,⟨PySem.PyData.keyHash P "is_move",.str "is_move" 560,.ref 282⟩,⟨PySem.PyData.keyHash P "is_put",.str "is_put" 572,.ref 289⟩,⟨PySem.PyData.keyHash P "SORTS",.str "SORTS" 581,.ref 290⟩,⟨PySem.PyData.keyHash P "is_deed",.str "is_deed" 592,.ref 297⟩,⟨PySem.PyData.keyHash P "is_machine",.str "is_machine" 598,.ref 302⟩,⟨PySem.PyData.keyHash P "need_machine",.str "need_machine" 605,.ref 309⟩,⟨PySem.PyData.keyHash P "beginnings",.str "beginnings" 611,.ref 314⟩,⟨PySem.PyData.keyHash P "_law_spread",.str "_law_spread" 625,.ref 321⟩,⟨PySem.PyData.keyHash P "_law_open",.str "_law_open" 635,.ref 328⟩,⟨PySem.PyData.keyHash P "_law_anew",.str "_law_anew" 642,.ref 335⟩,⟨PySem.PyData.keyHash P "_law_take",.str "_law_take" 653,.ref 342⟩,⟨PySem.PyData.keyHash P "_law_sign_but",.str "_law_sign_but" 659,.ref 347⟩,⟨PySem.PyData.keyHash P "_law_any_sign",.str "_law_any_sign" 666,.ref 354⟩,⟨PySem.PyData.keyHash P "_law_signed",.str "_law_signed" 675,.ref 361⟩,⟨PySem.PyData.keyHash P "_law_is_whole",.str "_law_is_whole" 682,.ref 368⟩,⟨PySem.PyData.keyHash P "_law_same",.str "_law_same" 688,.ref 373⟩,⟨PySem.PyData.keyHash P "_law_tab",.str "_law_tab" 694,.ref 378⟩,⟨PySem.PyData.keyHash P "_law_deed",.str "_law_deed" 700,.ref 383⟩,⟨PySem.PyData.keyHash P "_law_machine",.str "_law_machine" 714,.ref 390⟩,⟨PySem.PyData.keyHash P "_law_begins",.str "_law_begins" 720,.ref 395⟩,⟨PySem.PyData.keyHash P "_law_is_in",.str "_law_is_in" 729,.ref 402⟩,⟨PySem.PyData.keyHash P "_law_numbers",.str "_law_numbers" 735,.ref 407⟩,⟨PySem.PyData.keyHash P "_law_is_deed",.str "_law_is_deed" 741,.ref 412⟩,⟨PySem.PyData.keyHash P "_law_is_machine",.str "_law_is_machine" 747,.ref 417⟩,⟨PySem.PyData.keyHash P "_law_bent",.str "_law_bent" 762,.ref 424⟩,⟨PySem.PyData.keyHash P "_law_refusal",.str "_law_refusal" 771,.ref 431⟩,⟨PySem.PyData.keyHash P "_law_told",.str "_law_told" 781,.ref 438⟩,⟨PySem.PyData.keyHash P "law",.str "law" 796,.ref 445⟩] 66}),
  (23,{cls:=.type "dict",data:=.dict #[⟨PySem.PyData.keyHash P "__module__",.str "__module__" 196,.str "leastdeeds.errors" 187⟩,⟨PySem.PyData.keyHash P "__firstlineno__",.str "__firstlineno__" 200,.int 2 199⟩,⟨PySem.PyData.keyHash P "__static_attributes__",.str "__static_attributes__" 201,.ref 22⟩,⟨PySem.PyData.keyHash P "__weakref__",.str "__weakref__" 203,.ref 25⟩,⟨PySem.PyData.keyHash P "__doc__",.str "__doc__" 204,.none⟩] 3}),
  (24,{cls:=.type "type",data:=.cls {name:="DeedError",bases:=[.type "ValueError"],mro:=[.ref 24,.type "ValueError",.type "Exception",.type "BaseException",.type "object"],ns:=23,qualname:="DeedError",subclasses:=[.ref 44,.ref 63,.ref 82,.ref 94,.ref 106,.ref 118,.ref 130,.ref 142,.ref 154,.ref 166,.ref 178,.ref 190,.ref 202,.ref 214]},slots:=#[some (.ref 15),none,some (.str "DeedError" 189),some (.str "DeedError" 197),some (.builtin "ValueError.__new__"),some (.bool true)]}),
  (43,{cls:=.type "dict",data:=.dict #[⟨PySem.PyData.keyHash P "__module__",.str "__module__" 214,.str "leastdeeds.errors" 187⟩,⟨PySem.PyData.keyHash P "__firstlineno__",.str "__firstlineno__" 218,.int 4 217⟩,⟨PySem.PyData.keyHash P "__init__",.str "__init__" 226,.ref 41⟩,⟨PySem.PyData.keyHash P "__static_attributes__",.str "__static_attributes__" 228,.ref 42⟩,⟨PySem.PyData.keyHash P "__doc__",.str "__doc__" 229,.none⟩] 2}),
  (44,{cls:=.type "type",data:=.cls {name:="NoRow",bases:=[.ref 24],mro:=[.ref 44,.ref 24,.type "ValueError",.type "Exception",.type "BaseException",.type "object"],ns:=43,qualname:="NoRow"},slots:=#[some (.ref 28),none,some (.str "NoRow" 207),some (.str "NoRow" 215),some (.builtin "ValueError.__new__"),some (.bool true)]}),
  (62,{cls:=.type "dict",data:=.dict #[⟨PySem.PyData.keyHash P "__module__",.str "__module__" 239,.str "leastdeeds.errors" 187⟩,⟨PySem.PyData.keyHash P "__firstlineno__",.str "__firstlineno__" 243,.int 9 242⟩,⟨PySem.PyData.keyHash P "__init__",.str "__init__" 251,.ref 60⟩,⟨PySem.PyData.keyHash P "__static_attributes__",.str "__static_attributes__" 253,.ref 61⟩,⟨PySem.PyData.keyHash P "__doc__",.str "__doc__" 254,.none⟩] 2}),
  (63,{cls:=.type "type",data:=.cls {name:="NoRule",bases:=[.ref 24],mro:=[.ref 63,.ref 24,.type "ValueError",.type "Exception",.type "BaseException",.type "object"],ns:=62,qualname:="NoRule"},slots:=#[some (.ref 47),none,some (.str "NoRule" 232),some (.str "NoRule" 240),some (.builtin "ValueError.__new__"),some (.bool true)]}),
  (81,{cls:=.type "dict",data:=.dict #[⟨PySem.PyData.keyHash P "__module__",.str "__module__" 264,.str "leastdeeds.errors" 187⟩,⟨PySem.PyData.keyHash P "__firstlineno__",.str "__firstlineno__" 268,.int 14 267⟩,⟨PySem.PyData.keyHash P "__init__",.str "__init__" 276,.ref 79⟩,⟨PySem.PyData.keyHash P "__static_attributes__",.str "__static_attributes__" 278,.ref 80⟩,⟨PySem.PyData.keyHash P "__doc__",.str "__doc__" 279,.none⟩] 2}),
  (82,{cls:=.type "type",data:=.cls {name:="NoStep",bases:=[.ref 24],mro:=[.ref 82,.ref 24,.type "ValueError",.type "Exception",.type "BaseException",.type "object"],ns:=81,qualname:="NoStep"},slots:=#[some (.ref 66),none,some (.str "NoStep" 257),some (.str "NoStep" 265),some (.builtin "ValueError.__new__"),some (.bool true)]}),
  (93,{cls:=.type "dict",data:=.dict #[⟨PySem.PyData.keyHash P "__module__",.str "__module__" 289,.str "leastdeeds.errors" 187⟩,⟨PySem.PyData.keyHash P "__firstlineno__",.str "__firstlineno__" 293,.int 19 292⟩,⟨PySem.PyData.keyHash P "__static_attributes__",.str "__static_attributes__" 294,.ref 92⟩,⟨PySem.PyData.keyHash P "__doc__",.str "__doc__" 295,.none⟩] 2}),
  (94,{cls:=.type "type",data:=.cls {name:="NoMachine",bases:=[.ref 24],mro:=[.ref 94,.ref 24,.type "ValueError",.type "Exception",.type "BaseException",.type "object"],ns:=93,qualname:="NoMachine"},slots:=#[some (.ref 85),none,some (.str "NoMachine" 282),some (.str "NoMachine" 290),some (.builtin "ValueError.__new__"),some (.bool true)]}),
  (105,{cls:=.type "dict",data:=.dict #[⟨PySem.PyData.keyHash P "__module__",.str "__module__" 305,.str "leastdeeds.errors" 187⟩,⟨PySem.PyData.keyHash P "__firstlineno__",.str "__firstlineno__" 309,.int 21 308⟩,⟨PySem.PyData.keyHash P "__static_attributes__",.str "__static_attributes__" 310,.ref 104⟩,⟨PySem.PyData.keyHash P "__doc__",.str "__doc__" 311,.none⟩] 2}),
  (106,{cls:=.type "type",data:=.cls {name:="TooLong",bases:=[.ref 24],mro:=[.ref 106,.ref 24,.type "ValueError",.type "Exception",.type "BaseException",.type "object"],ns:=105,qualname:="TooLong"},slots:=#[some (.ref 97),none,some (.str "TooLong" 298),some (.str "TooLong" 306),some (.builtin "ValueError.__new__"),some (.bool true)]}),
  (117,{cls:=.type "dict",data:=.dict #[⟨PySem.PyData.keyHash P "__module__",.str "__module__" 321,.str "leastdeeds.errors" 187⟩,⟨PySem.PyData.keyHash P "__firstlineno__",.str "__firstlineno__" 325,.int 23 324⟩,⟨PySem.PyData.keyHash P "__static_attributes__",.str "__static_attributes__" 326,.ref 116⟩,⟨PySem.PyData.keyHash P "__doc__",.str "__doc__" 327,.none⟩] 2}),
  (118,{cls:=.type "type",data:=.cls {name:="NoWord",bases:=[.ref 24],mro:=[.ref 118,.ref 24,.type "ValueError",.type "Exception",.type "BaseException",.type "object"],ns:=117,qualname:="NoWord"},slots:=#[some (.ref 109),none,some (.str "NoWord" 314),some (.str "NoWord" 322),some (.builtin "ValueError.__new__"),some (.bool true)]}),
  (129,{cls:=.type "dict",data:=.dict #[⟨PySem.PyData.keyHash P "__module__",.str "__module__" 337,.str "leastdeeds.errors" 187⟩,⟨PySem.PyData.keyHash P "__firstlineno__",.str "__firstlineno__" 341,.int 25 340⟩,⟨PySem.PyData.keyHash P "__static_attributes__",.str "__static_attributes__" 342,.ref 128⟩,⟨PySem.PyData.keyHash P "__doc__",.str "__doc__" 343,.none⟩] 2}),
  (130,{cls:=.type "type",data:=.cls {name:="NoWork",bases:=[.ref 24],mro:=[.ref 130,.ref 24,.type "ValueError",.type "Exception",.type "BaseException",.type "object"],ns:=129,qualname:="NoWork"},slots:=#[some (.ref 121),none,some (.str "NoWork" 330),some (.str "NoWork" 338),some (.builtin "ValueError.__new__"),some (.bool true)]}),
  (141,{cls:=.type "dict",data:=.dict #[⟨PySem.PyData.keyHash P "__module__",.str "__module__" 353,.str "leastdeeds.errors" 187⟩,⟨PySem.PyData.keyHash P "__firstlineno__",.str "__firstlineno__" 357,.int 27 356⟩,⟨PySem.PyData.keyHash P "__static_attributes__",.str "__static_attributes__" 358,.ref 140⟩,⟨PySem.PyData.keyHash P "__doc__",.str "__doc__" 359,.none⟩] 2}),
  (142,{cls:=.type "type",data:=.cls {name:="NoBound",bases:=[.ref 24],mro:=[.ref 142,.ref 24,.type "ValueError",.type "Exception",.type "BaseException",.type "object"],ns:=141,qualname:="NoBound"},slots:=#[some (.ref 133),none,some (.str "NoBound" 346),some (.str "NoBound" 354),some (.builtin "ValueError.__new__"),some (.bool true)]}),
  (153,{cls:=.type "dict",data:=.dict #[⟨PySem.PyData.keyHash P "__module__",.str "__module__" 369,.str "leastdeeds.errors" 187⟩,⟨PySem.PyData.keyHash P "__firstlineno__",.str "__firstlineno__" 373,.int 29 372⟩,⟨PySem.PyData.keyHash P "__static_attributes__",.str "__static_attributes__" 374,.ref 152⟩,⟨PySem.PyData.keyHash P "__doc__",.str "__doc__" 375,.none⟩] 2}),
  (154,{cls:=.type "type",data:=.cls {name:="TooMany",bases:=[.ref 24],mro:=[.ref 154,.ref 24,.type "ValueError",.type "Exception",.type "BaseException",.type "object"],ns:=153,qualname:="TooMany"},slots:=#[some (.ref 145),none,some (.str "TooMany" 362),some (.str "TooMany" 370),some (.builtin "ValueError.__new__"),some (.bool true)]}),
  (165,{cls:=.type "dict",data:=.dict #[⟨PySem.PyData.keyHash P "__module__",.str "__module__" 385,.str "leastdeeds.errors" 187⟩,⟨PySem.PyData.keyHash P "__firstlineno__",.str "__firstlineno__" 389,.int 31 388⟩,⟨PySem.PyData.keyHash P "__static_attributes__",.str "__static_attributes__" 390,.ref 164⟩,⟨PySem.PyData.keyHash P "__doc__",.str "__doc__" 391,.none⟩] 2}),
  (166,{cls:=.type "type",data:=.cls {name:="NoPlace",bases:=[.ref 24],mro:=[.ref 166,.ref 24,.type "ValueError",.type "Exception",.type "BaseException",.type "object"],ns:=165,qualname:="NoPlace"},slots:=#[some (.ref 157),none,some (.str "NoPlace" 378),some (.str "NoPlace" 386),some (.builtin "ValueError.__new__"),some (.bool true)]}),
  (177,{cls:=.type "dict",data:=.dict #[⟨PySem.PyData.keyHash P "__module__",.str "__module__" 401,.str "leastdeeds.errors" 187⟩,⟨PySem.PyData.keyHash P "__firstlineno__",.str "__firstlineno__" 405,.int 33 404⟩,⟨PySem.PyData.keyHash P "__static_attributes__",.str "__static_attributes__" 406,.ref 176⟩,⟨PySem.PyData.keyHash P "__doc__",.str "__doc__" 407,.none⟩] 2}),
  (178,{cls:=.type "type",data:=.cls {name:="NoDeed",bases:=[.ref 24],mro:=[.ref 178,.ref 24,.type "ValueError",.type "Exception",.type "BaseException",.type "object"],ns:=177,qualname:="NoDeed"},slots:=#[some (.ref 169),none,some (.str "NoDeed" 394),some (.str "NoDeed" 402),some (.builtin "ValueError.__new__"),some (.bool true)]}),
  (189,{cls:=.type "dict",data:=.dict #[⟨PySem.PyData.keyHash P "__module__",.str "__module__" 417,.str "leastdeeds.errors" 187⟩,⟨PySem.PyData.keyHash P "__firstlineno__",.str "__firstlineno__" 421,.int 35 420⟩,⟨PySem.PyData.keyHash P "__static_attributes__",.str "__static_attributes__" 422,.ref 188⟩,⟨PySem.PyData.keyHash P "__doc__",.str "__doc__" 423,.none⟩] 2}),
  (190,{cls:=.type "type",data:=.cls {name:="Nothing",bases:=[.ref 24],mro:=[.ref 190,.ref 24,.type "ValueError",.type "Exception",.type "BaseException",.type "object"],ns:=189,qualname:="Nothing"},slots:=#[some (.ref 181),none,some (.str "Nothing" 410),some (.str "Nothing" 418),some (.builtin "ValueError.__new__"),some (.bool true)]}),
  (201,{cls:=.type "dict",data:=.dict #[⟨PySem.PyData.keyHash P "__module__",.str "__module__" 433,.str "leastdeeds.errors" 187⟩,⟨PySem.PyData.keyHash P "__firstlineno__",.str "__firstlineno__" 437,.int 37 436⟩,⟨PySem.PyData.keyHash P "__static_attributes__",.str "__static_attributes__" 438,.ref 200⟩,⟨PySem.PyData.keyHash P "__doc__",.str "__doc__" 439,.none⟩] 2}),
  (202,{cls:=.type "type",data:=.cls {name:="NoText",bases:=[.ref 24],mro:=[.ref 202,.ref 24,.type "ValueError",.type "Exception",.type "BaseException",.type "object"],ns:=201,qualname:="NoText"},slots:=#[some (.ref 193),none,some (.str "NoText" 426),some (.str "NoText" 434),some (.builtin "ValueError.__new__"),some (.bool true)]}),
  (213,{cls:=.type "dict",data:=.dict #[⟨PySem.PyData.keyHash P "__module__",.str "__module__" 449,.str "leastdeeds.errors" 187⟩,⟨PySem.PyData.keyHash P "__firstlineno__",.str "__firstlineno__" 453,.int 39 452⟩,⟨PySem.PyData.keyHash P "__static_attributes__",.str "__static_attributes__" 454,.ref 212⟩,⟨PySem.PyData.keyHash P "__doc__",.str "__doc__" 455,.none⟩] 2}),
  (214,{cls:=.type "type",data:=.cls {name:="NoLine",bases:=[.ref 24],mro:=[.ref 214,.ref 24,.type "ValueError",.type "Exception",.type "BaseException",.type "object"],ns:=213,qualname:="NoLine"},slots:=#[some (.ref 205),none,some (.str "NoLine" 442),some (.str "NoLine" 450),some (.builtin "ValueError.__new__"),some (.bool true)]}),
  (222,{cls:=.type "code",data:=.fields #[.str "is_between" 460,.str "is_between" 461,.str "/claim/cut.py" 462,.int 42 0,.int 3 0,.int 0 0,.int 0 0,.int 3 0,.ref 217,.bool true,.int 181 0,.ref 218,.none,.ref 219,.ref 220,.ref 221,.int 466 0,.int 42 0,.str "/claim/cut.py" 467]}),
  (223,{cls:=.type "function",data:=.func {name:="is_between",qualname:="is_between",params:=zcb (zay 17),body:=PySem.FuncBody.stmts (zca (zay 17)),scope:=zbx (zay 17),globals:=3,closure:=[],defaults:=.none,kwdefaults:=.none,pyModule:=.str "leastdeeds.wholes" 458,code:=.ref 222}}),
  (229,{cls:=.type "code",data:=.fields #[.str "is_word" 481,.str "is_word" 482,.str "/claim/cut.py" 483,.int 52 0,.int 2 0,.int 0 0,.int 0 0,.int 3 0,.ref 224,.bool true,.int 181 0,.ref 225,.none,.ref 226,.ref 227,.ref 228,.int 486 0,.int 52 0,.str "/claim/cut.py" 487]}),
  (230,{cls:=.type "function",data:=.func {name:="is_word",qualname:="is_word",params:=zcb (zay 24),body:=PySem.FuncBody.stmts (zca (zay 24)),scope:=zbx (zay 24),globals:=3,closure:=[],defaults:=.none,kwdefaults:=.none,pyModule:=.str "leastdeeds.machines" 469,code:=.ref 229}}),
  (236,{cls:=.type "code",data:=.fields #[.str "is_place" 489,.str "is_place" 490,.str "/claim/cut.py" 491,.int 54 0,.int 2 0,.int 0 0,.int 0 0,.int 3 0,.ref 231,.bool true,.int 181 0,.ref 232,.none,.ref 233,.ref 234,.ref 235,.int 494 0,.int 54 0,.str "/claim/cut.py" 495]}),
  (237,{cls:=.type "function",data:=.func {name:="is_place",qualname:="is_place",params:=zcb (zay 25),body:=PySem.FuncBody.stmts (zca (zay 25)),scope:=zbx (zay 25),globals:=3,closure:=[],defaults:=.none,kwdefaults:=.none,pyModule:=.str "leastdeeds.machines" 469,code:=.ref 236}}),
  (243,{cls:=.type "code",data:=.fields #[.str "is_cost" 497,.str "is_cost" 498,.str "/claim/cut.py" 499,.int 56 0,.int 1 0,.int 0 0,.int 0 0,.int 3 0,.ref 238,.bool true,.int 181 0,.ref 239,.none,.ref 240,.ref 241,.ref 242,.int 501 0,.int 56 0,.str "/claim/cut.py" 502]}),
  (244,{cls:=.type "function",data:=.func {name:="is_cost",qualname:="is_cost",params:=zcb (zay 26),body:=PySem.FuncBody.stmts (zca (zay 26)),scope:=zbx (zay 26),globals:=3,closure:=[],defaults:=.none,kwdefaults:=.none,pyModule:=.str "leastdeeds.machines" 469,code:=.ref 243}}),
  (250,{cls:=.type "code",data:=.fields #[.str "is_tuple_of" 504,.str "is_tuple_of" 505,.str "/claim/cut.py" 506,.int 58 0,.int 2 0,.int 0 0,.int 0 0,.int 3 0,.ref 245,.bool true,.int 181 0,.ref 246,.none,.ref 247,.ref 248,.ref 249,.int 509 0,.int 58 0,.str "/claim/cut.py" 510]}),
  (251,{cls:=.type "function",data:=.func {name:="is_tuple_of",qualname:="is_tuple_of",params:=zcb (zay 27),body:=PySem.FuncBody.stmts (zca (zay 27)),scope:=zbx (zay 27),globals:=3,closure:=[],defaults:=.none,kwdefaults:=.none,pyModule:=.str "leastdeeds.machines" 469,code:=.ref 250}}),
  (255,{cls:=.type "code",data:=.fields #[.str "is_table" 512,.str "is_table" 513,.str "/claim/cut.py" 514,.int 60 0,.int 2 0,.int 0 0,.int 0 0,.int 3 0,.ref 252,.bool true,.int 181 0,.ref 253,.none,.none,.none,.ref 254,.int 515 0,.int 60 0,.str "/claim/cut.py" 516]}),
  (256,{cls:=.type "function",data:=.func {name:="is_table",qualname:="is_table",params:=zcb (zay 28),body:=PySem.FuncBody.stmts (zca (zay 28)),scope:=zbx (zay 28),globals:=3,closure:=[],defaults:=.none,kwdefaults:=.none,pyModule:=.str "leastdeeds.machines" 469,code:=.ref 255}}),
  (260,{cls:=.type "code",data:=.fields #[.str "is_double_table" 518,.str "is_double_table" 519,.str "/claim/cut.py" 520,.int 62 0,.int 2 0,.int 0 0,.int 0 0,.int 3 0,.ref 257,.bool true,.int 181 0,.ref 258,.none,.none,.none,.ref 259,.int 521 0,.int 62 0,.str "/claim/cut.py" 522]}),
  (261,{cls:=.type "function",data:=.func {name:="is_double_table",qualname:="is_double_table",params:=zcb (zay 29),body:=PySem.FuncBody.stmts (zca (zay 29)),scope:=zbx (zay 29),globals:=3,closure:=[],defaults:=.none,kwdefaults:=.none,pyModule:=.str "leastdeeds.machines" 469,code:=.ref 260}}),
  (267,{cls:=.type "code",data:=.fields #[.str "is_turn" 524,.str "is_turn" 525,.str "/claim/cut.py" 526,.int 64 0,.int 3 0,.int 0 0,.int 0 0,.int 3 0,.ref 262,.bool true,.int 181 0,.ref 263,.none,.ref 264,.ref 265,.ref 266,.int 533 0,.int 64 0,.str "/claim/cut.py" 534]}),
  (268,{cls:=.type "function",data:=.func {name:="is_turn",qualname:="is_turn",params:=zcb (zay 30),body:=PySem.FuncBody.stmts (zca (zay 30)),scope:=zbx (zay 30),globals:=3,closure:=[],defaults:=.none,kwdefaults:=.none,pyModule:=.str "leastdeeds.machines" 469,code:=.ref 267}}),
  (274,{cls:=.type "code",data:=.fields #[.str "is_join" 536,.str "is_join" 537,.str "/claim/cut.py" 538,.int 69 0,.int 3 0,.int 0 0,.int 0 0,.int 3 0,.ref 269,.bool true,.int 181 0,.ref 270,.none,.ref 271,.ref 272,.ref 273,.int 546 0,.int 69 0,.str "/claim/cut.py" 547]}),
  (275,{cls:=.type "function",data:=.func {name:="is_join",qualname:="is_join",params:=zcb (zay 31),body:=PySem.FuncBody.stmts (zca (zay 31)),scope:=zbx (zay 31),globals:=3,closure:=[],defaults:=.none,kwdefaults:=.none,pyModule:=.str "leastdeeds.machines" 469,code:=.ref 274}}),
  (281,{cls:=.type "code",data:=.fields #[.str "is_move" 549,.str "is_move" 550,.str "/claim/cut.py" 551,.int 76 0,.int 3 0,.int 0 0,.int 0 0,.int 3 0,.ref 276,.bool true,.int 181 0,.ref 277,.none,.ref 278,.ref 279,.ref 280,.int 558 0,.int 76 0,.str "/claim/cut.py" 559]}),
  (282,{cls:=.type "function",data:=.func {name:="is_move",qualname:="is_move",params:=zcb (zay 32),body:=PySem.FuncBody.stmts (zca (zay 32)),scope:=zbx (zay 32),globals:=3,closure:=[],defaults:=.none,kwdefaults:=.none,pyModule:=.str "leastdeeds.machines" 469,code:=.ref 281}}),
  (288,{cls:=.type "code",data:=.fields #[.str "is_put" 561,.str "is_put" 562,.str "/claim/cut.py" 563,.int 81 0,.int 3 0,.int 0 0,.int 0 0,.int 3 0,.ref 283,.bool true,.int 181 0,.ref 284,.none,.ref 285,.ref 286,.ref 287,.int 570 0,.int 81 0,.str "/claim/cut.py" 571]}),
  (289,{cls:=.type "function",data:=.func {name:="is_put",qualname:="is_put",params:=zcb (zay 33),body:=PySem.FuncBody.stmts (zca (zay 33)),scope:=zbx (zay 33),globals:=3,closure:=[],defaults:=.none,kwdefaults:=.none,pyModule:=.str "leastdeeds.machines" 469,code:=.ref 288}}),
  (290,{cls:=.type "dict",data:=.dict #[⟨PySem.PyData.keyHash P "turn",.str "turn" 573,.ref 268⟩,⟨PySem.PyData.keyHash P "join",.str "join" 574,.ref 275⟩,⟨PySem.PyData.keyHash P "move",.str "move" 575,.ref 282⟩,⟨PySem.PyData.keyHash P "put",.str "put" 576,.ref 289⟩] 4}),
  (296,{cls:=.type "code",data:=.fields #[.str "is_deed" 582,.str "is_deed" 583,.str "/claim/cut.py" 584,.int 87 0,.int 3 0,.int 0 0,.int 0 0,.int 3 0,.ref 291,.bool true,.int 181 0,.ref 292,.none,.ref 293,.ref 294,.ref 295,.int 590 0,.int 87 0,.str "/claim/cut.py" 591]}),
  (297,{cls:=.type "function",data:=.func {name:="is_deed",qualname:="is_deed",params:=zcb (zay 35),body:=PySem.FuncBody.stmts (zca (zay 35)),scope:=zbx (zay 35),globals:=3,closure:=[],defaults:=.none,kwdefaults:=.none,pyModule:=.str "leastdeeds.machines" 469,code:=.ref 296}}),
  (301,{cls:=.type "code",data:=.fields #[.str "is_machine" 593,.str "is_machine" 594,.str "/claim/cut.py" 595,.int 95 0,.int 1 0,.int 0 0,.int 0 0,.int 3 0,.ref 298,.bool true,.int 181 0,.ref 299,.none,.none,.none,.ref 300,.int 596 0,.int 95 0,.str "/claim/cut.py" 597]}),
  (302,{cls:=.type "function",data:=.func {name:="is_machine",qualname:="is_machine",params:=zcb (zay 36),body:=PySem.FuncBody.stmts (zca (zay 36)),scope:=zbx (zay 36),globals:=3,closure:=[],defaults:=.none,kwdefaults:=.none,pyModule:=.str "leastdeeds.machines" 469,code:=.ref 301}}),
  (308,{cls:=.type "code",data:=.fields #[.str "need_machine" 599,.str "need_machine" 600,.str "/claim/cut.py" 601,.int 104 0,.int 1 0,.int 0 0,.int 0 0,.int 3 0,.ref 303,.bool true,.int 181 0,.ref 304,.none,.ref 305,.ref 306,.ref 307,.int 603 0,.int 104 0,.str "/claim/cut.py" 604]}),
  (309,{cls:=.type "function",data:=.func {name:="need_machine",qualname:="need_machine",params:=zcb (zay 37),body:=PySem.FuncBody.stmts (zca (zay 37)),scope:=zbx (zay 37),globals:=3,closure:=[],defaults:=.none,kwdefaults:=.none,pyModule:=.str "leastdeeds.machines" 469,code:=.ref 308}}),
  (313,{cls:=.type "code",data:=.fields #[.str "beginnings" 606,.str "beginnings" 607,.str "/claim/cut.py" 608,.int 107 0,.int 1 0,.int 0 0,.int 0 0,.int 3 0,.ref 310,.bool true,.int 181 0,.ref 311,.none,.none,.none,.ref 312,.int 609 0,.int 107 0,.str "/claim/cut.py" 610]}),
  (314,{cls:=.type "function",data:=.func {name:="beginnings",qualname:="beginnings",params:=zcb (zay 38),body:=PySem.FuncBody.stmts (zca (zay 38)),scope:=zbx (zay 38),globals:=3,closure:=[],defaults:=.none,kwdefaults:=.none,pyModule:=.str "leastdeeds.machines" 469,code:=.ref 313}}),
  (320,{cls:=.type "code",data:=.fields #[.str "_law_spread" 614,.str "_law_spread" 615,.str "/claim/cut.py" 616,.int 115 0,.int 2 0,.int 0 0,.int 0 0,.int 3 0,.ref 315,.bool true,.int 181 0,.ref 316,.none,.ref 317,.ref 318,.ref 319,.int 623 0,.int 115 0,.str "/claim/cut.py" 624]}),
  (321,{cls:=.type "function",data:=.func {name:="_law_spread",qualname:="_law_spread",params:=zcb (zay 40),body:=PySem.FuncBody.stmts (zca (zay 40)),scope:=zbx (zay 40),globals:=3,closure:=[],defaults:=.none,kwdefaults:=.none,pyModule:=.str "law_leastdeeds_k02_beginnings_in_order" 612,code:=.ref 320}}),
  (327,{cls:=.type "code",data:=.fields #[.str "_law_open" 626,.str "_law_open" 627,.str "/claim/cut.py" 628,.int 124 0,.int 1 0,.int 0 0,.int 0 0,.int 3 0,.ref 322,.bool true,.int 181 0,.ref 323,.none,.ref 324,.ref 325,.ref 326,.int 633 0,.int 124 0,.str "/claim/cut.py" 634]}),
  (328,{cls:=.type "function",data:=.func {name:="_law_open",qualname:="_law_open",params:=zcb (zay 41),body:=PySem.FuncBody.stmts (zca (zay 41)),scope:=zbx (zay 41),globals:=3,closure:=[],defaults:=.none,kwdefaults:=.none,pyModule:=.str "law_leastdeeds_k02_beginnings_in_order" 612,code:=.ref 327}}),
  (334,{cls:=.type "code",data:=.fields #[.str "_law_anew" 636,.str "_law_anew" 637,.str "/claim/cut.py" 638,.int 129 0,.int 1 0,.int 0 0,.int 0 0,.int 3 0,.ref 329,.bool true,.int 181 0,.ref 330,.none,.ref 331,.ref 332,.ref 333,.int 640 0,.int 129 0,.str "/claim/cut.py" 641]}),
  (335,{cls:=.type "function",data:=.func {name:="_law_anew",qualname:="_law_anew",params:=zcb (zay 42),body:=PySem.FuncBody.stmts (zca (zay 42)),scope:=zbx (zay 42),globals:=3,closure:=[],defaults:=.none,kwdefaults:=.none,pyModule:=.str "law_leastdeeds_k02_beginnings_in_order" 612,code:=.ref 334}}),
  (341,{cls:=.type "code",data:=.fields #[.str "_law_take" 643,.str "_law_take" 644,.str "/claim/cut.py" 645,.int 132 0,.int 2 0,.int 0 0,.int 0 0,.int 3 0,.ref 336,.bool true,.int 181 0,.ref 337,.none,.ref 338,.ref 339,.ref 340,.int 651 0,.int 132 0,.str "/claim/cut.py" 652]}),
  (342,{cls:=.type "function",data:=.func {name:="_law_take",qualname:="_law_take",params:=zcb (zay 43),body:=PySem.FuncBody.stmts (zca (zay 43)),scope:=zbx (zay 43),globals:=3,closure:=[],defaults:=.none,kwdefaults:=.none,pyModule:=.str "law_leastdeeds_k02_beginnings_in_order" 612,code:=.ref 341}}),
  (346,{cls:=.type "code",data:=.fields #[.str "_law_sign_but" 654,.str "_law_sign_but" 655,.str "/claim/cut.py" 656,.int 145 0,.int 2 0,.int 0 0,.int 0 0,.int 3 0,.ref 343,.bool true,.int 181 0,.ref 344,.none,.none,.none,.ref 345,.int 657 0,.int 145 0,.str "/claim/cut.py" 658]}),
  (347,{cls:=.type "function",data:=.func {name:="_law_sign_but",qualname:="_law_sign_but",params:=zcb (zay 44),body:=PySem.FuncBody.stmts (zca (zay 44)),scope:=zbx (zay 44),globals:=3,closure:=[],defaults:=.none,kwdefaults:=.none,pyModule:=.str "law_leastdeeds_k02_beginnings_in_order" 612,code:=.ref 346}}),
  (353,{cls:=.type "code",data:=.fields #[.str "_law_any_sign" 660,.str "_law_any_sign" 661,.str "/claim/cut.py" 662,.int 150 0,.int 1 0,.int 0 0,.int 0 0,.int 3 0,.ref 348,.bool true,.int 181 0,.ref 349,.none,.ref 350,.ref 351,.ref 352,.int 664 0,.int 150 0,.str "/claim/cut.py" 665]}),
  (354,{cls:=.type "function",data:=.func {name:="_law_any_sign",qualname:="_law_any_sign",params:=zcb (zay 45),body:=PySem.FuncBody.stmts (zca (zay 45)),scope:=zbx (zay 45),globals:=3,closure:=[],defaults:=.none,kwdefaults:=.none,pyModule:=.str "law_leastdeeds_k02_beginnings_in_order" 612,code:=.ref 353}}),
  (360,{cls:=.type "code",data:=.fields #[.str "_law_signed" 667,.str "_law_signed" 668,.str "/claim/cut.py" 669,.int 152 0,.int 2 0,.int 0 0,.int 0 0,.int 3 0,.ref 355,.bool true,.int 181 0,.ref 356,.none,.ref 357,.ref 358,.ref 359,.int 673 0,.int 152 0,.str "/claim/cut.py" 674]}),
  (361,{cls:=.type "function",data:=.func {name:="_law_signed",qualname:="_law_signed",params:=zcb (zay 46),body:=PySem.FuncBody.stmts (zca (zay 46)),scope:=zbx (zay 46),globals:=3,closure:=[],defaults:=.none,kwdefaults:=.none,pyModule:=.str "law_leastdeeds_k02_beginnings_in_order" 612,code:=.ref 360}}),
  (367,{cls:=.type "code",data:=.fields #[.str "_law_is_whole" 676,.str "_law_is_whole" 677,.str "/claim/cut.py" 678,.int 155 0,.int 1 0,.int 0 0,.int 0 0,.int 3 0,.ref 362,.bool true,.int 181 0,.ref 363,.none,.ref 364,.ref 365,.ref 366,.int 680 0,.int 155 0,.str "/claim/cut.py" 681]}),
  (368,{cls:=.type "function",data:=.func {name:="_law_is_whole",qualname:="_law_is_whole",params:=zcb (zay 47),body:=PySem.FuncBody.stmts (zca (zay 47)),scope:=zbx (zay 47),globals:=3,closure:=[],defaults:=.none,kwdefaults:=.none,pyModule:=.str "law_leastdeeds_k02_beginnings_in_order" 612,code:=.ref 367}}),
  (372,{cls:=.type "code",data:=.fields #[.str "_law_same" 683,.str "_law_same" 684,.str "/claim/cut.py" 685,.int 157 0,.int 2 0,.int 0 0,.int 0 0,.int 3 0,.ref 369,.bool true,.int 181 0,.ref 370,.none,.none,.none,.ref 371,.int 686 0,.int 157 0,.str "/claim/cut.py" 687]}),
  (373,{cls:=.type "function",data:=.func {name:="_law_same",qualname:="_law_same",params:=zcb (zay 48),body:=PySem.FuncBody.stmts (zca (zay 48)),scope:=zbx (zay 48),globals:=3,closure:=[],defaults:=.none,kwdefaults:=.none,pyModule:=.str "law_leastdeeds_k02_beginnings_in_order" 612,code:=.ref 372}}),
  (377,{cls:=.type "code",data:=.fields #[.str "_law_tab" 689,.str "_law_tab" 690,.str "/claim/cut.py" 691,.int 171 0,.int 2 0,.int 0 0,.int 0 0,.int 3 0,.ref 374,.bool true,.int 181 0,.ref 375,.none,.none,.none,.ref 376,.int 692 0,.int 171 0,.str "/claim/cut.py" 693]}),
  (378,{cls:=.type "function",data:=.func {name:="_law_tab",qualname:="_law_tab",params:=zcb (zay 49),body:=PySem.FuncBody.stmts (zca (zay 49)),scope:=zbx (zay 49),globals:=3,closure:=[],defaults:=.none,kwdefaults:=.none,pyModule:=.str "law_leastdeeds_k02_beginnings_in_order" 612,code:=.ref 377}}),
  (382,{cls:=.type "code",data:=.fields #[.str "_law_deed" 695,.str "_law_deed" 696,.str "/claim/cut.py" 697,.int 187 0,.int 3 0,.int 0 0,.int 0 0,.int 3 0,.ref 379,.bool true,.int 181 0,.ref 380,.none,.none,.none,.ref 381,.int 698 0,.int 187 0,.str "/claim/cut.py" 699]}),
  (383,{cls:=.type "function",data:=.func {name:="_law_deed",qualname:="_law_deed",params:=zcb (zay 50),body:=PySem.FuncBody.stmts (zca (zay 50)),scope:=zbx (zay 50),globals:=3,closure:=[],defaults:=.none,kwdefaults:=.none,pyModule:=.str "law_leastdeeds_k02_beginnings_in_order" 612,code:=.ref 382}}),
  (389,{cls:=.type "code",data:=.fields #[.str "_law_machine" 701,.str "_law_machine" 702,.str "/claim/cut.py" 703,.int 199 0,.int 4 0,.int 0 0,.int 0 0,.int 3 0,.ref 384,.bool true,.int 181 0,.ref 385,.none,.ref 386,.ref 387,.ref 388,.int 712 0,.int 199 0,.str "/claim/cut.py" 713]}),
  (390,{cls:=.type "function",data:=.func {name:="_law_machine",qualname:="_law_machine",params:=zcb (zay 51),body:=PySem.FuncBody.stmts (zca (zay 51)),scope:=zbx (zay 51),globals:=3,closure:=[],defaults:=.none,kwdefaults:=.none,pyModule:=.str "law_leastdeeds_k02_beginnings_in_order" 612,code:=.ref 389}}),
  (394,{cls:=.type "code",data:=.fields #[.str "_law_begins" 715,.str "_law_begins" 716,.str "/claim/cut.py" 717,.int 210 0,.int 1 0,.int 0 0,.int 0 0,.int 3 0,.ref 391,.bool true,.int 181 0,.ref 392,.none,.none,.none,.ref 393,.int 718 0,.int 210 0,.str "/claim/cut.py" 719]}),
  (395,{cls:=.type "function",data:=.func {name:="_law_begins",qualname:="_law_begins",params:=zcb (zay 52),body:=PySem.FuncBody.stmts (zca (zay 52)),scope:=zbx (zay 52),globals:=3,closure:=[],defaults:=.none,kwdefaults:=.none,pyModule:=.str "law_leastdeeds_k02_beginnings_in_order" 612,code:=.ref 394}}),
  (401,{cls:=.type "code",data:=.fields #[.str "_law_is_in" 721,.str "_law_is_in" 722,.str "/claim/cut.py" 723,.int 214 0,.int 3 0,.int 0 0,.int 0 0,.int 3 0,.ref 396,.bool true,.int 181 0,.ref 397,.none,.ref 398,.ref 399,.ref 400,.int 727 0,.int 214 0,.str "/claim/cut.py" 728]}),
  (402,{cls:=.type "function",data:=.func {name:="_law_is_in",qualname:="_law_is_in",params:=zcb (zay 53),body:=PySem.FuncBody.stmts (zca (zay 53)),scope:=zbx (zay 53),globals:=3,closure:=[],defaults:=.none,kwdefaults:=.none,pyModule:=.str "law_leastdeeds_k02_beginnings_in_order" 612,code:=.ref 401}}),
  (406,{cls:=.type "code",data:=.fields #[.str "_law_numbers" 730,.str "_law_numbers" 731,.str "/claim/cut.py" 732,.int 216 0,.int 4 0,.int 0 0,.int 0 0,.int 3 0,.ref 403,.bool true,.int 181 0,.ref 404,.none,.none,.none,.ref 405,.int 733 0,.int 216 0,.str "/claim/cut.py" 734]}),
  (407,{cls:=.type "function",data:=.func {name:="_law_numbers",qualname:="_law_numbers",params:=zcb (zay 54),body:=PySem.FuncBody.stmts (zca (zay 54)),scope:=zbx (zay 54),globals:=3,closure:=[],defaults:=.none,kwdefaults:=.none,pyModule:=.str "law_leastdeeds_k02_beginnings_in_order" 612,code:=.ref 406}}),
  (411,{cls:=.type "code",data:=.fields #[.str "_law_is_deed" 736,.str "_law_is_deed" 737,.str "/claim/cut.py" 738,.int 220 0,.int 3 0,.int 0 0,.int 0 0,.int 3 0,.ref 408,.bool true,.int 181 0,.ref 409,.none,.none,.none,.ref 410,.int 739 0,.int 220 0,.str "/claim/cut.py" 740]}),
  (412,{cls:=.type "function",data:=.func {name:="_law_is_deed",qualname:="_law_is_deed",params:=zcb (zay 55),body:=PySem.FuncBody.stmts (zca (zay 55)),scope:=zbx (zay 55),globals:=3,closure:=[],defaults:=.none,kwdefaults:=.none,pyModule:=.str "law_leastdeeds_k02_beginnings_in_order" 612,code:=.ref 411}}),
  (416,{cls:=.type "code",data:=.fields #[.str "_law_is_machine" 742,.str "_law_is_machine" 743,.str "/claim/cut.py" 744,.int 238 0,.int 1 0,.int 0 0,.int 0 0,.int 3 0,.ref 413,.bool true,.int 181 0,.ref 414,.none,.none,.none,.ref 415,.int 745 0,.int 238 0,.str "/claim/cut.py" 746]}),
  (417,{cls:=.type "function",data:=.func {name:="_law_is_machine",qualname:="_law_is_machine",params:=zcb (zay 56),body:=PySem.FuncBody.stmts (zca (zay 56)),scope:=zbx (zay 56),globals:=3,closure:=[],defaults:=.none,kwdefaults:=.none,pyModule:=.str "law_leastdeeds_k02_beginnings_in_order" 612,code:=.ref 416}}),
  (423,{cls:=.type "code",data:=.fields #[.str "_law_bent" 748,.str "_law_bent" 749,.str "/claim/cut.py" 750,.int 244 0,.int 3 0,.int 0 0,.int 0 0,.int 3 0,.ref 418,.bool true,.int 181 0,.ref 419,.none,.ref 420,.ref 421,.ref 422,.int 760 0,.int 244 0,.str "/claim/cut.py" 761]}),
  (424,{cls:=.type "function",data:=.func {name:="_law_bent",qualname:="_law_bent",params:=zcb (zay 57),body:=PySem.FuncBody.stmts (zca (zay 57)),scope:=zbx (zay 57),globals:=3,closure:=[],defaults:=.none,kwdefaults:=.none,pyModule:=.str "law_leastdeeds_k02_beginnings_in_order" 612,code:=.ref 423}}),
  (430,{cls:=.type "code",data:=.fields #[.str "_law_refusal" 763,.str "_law_refusal" 764,.str "/claim/cut.py" 765,.int 261 0,.int 1 0,.int 0 0,.int 0 0,.int 3 0,.ref 425,.bool true,.int 181 0,.ref 426,.none,.ref 427,.ref 428,.ref 429,.int 769 0,.int 261 0,.str "/claim/cut.py" 770]}),
  (431,{cls:=.type "function",data:=.func {name:="_law_refusal",qualname:="_law_refusal",params:=zcb (zay 58),body:=PySem.FuncBody.stmts (zca (zay 58)),scope:=zbx (zay 58),globals:=3,closure:=[],defaults:=.none,kwdefaults:=.none,pyModule:=.str "law_leastdeeds_k02_beginnings_in_order" 612,code:=.ref 430}}),
  (437,{cls:=.type "code",data:=.fields #[.str "_law_told" 772,.str "_law_told" 773,.str "/claim/cut.py" 774,.int 277 0,.int 1 0,.int 0 0,.int 0 0,.int 3 0,.ref 432,.bool true,.int 181 0,.ref 433,.none,.ref 434,.ref 435,.ref 436,.int 779 0,.int 277 0,.str "/claim/cut.py" 780]}),
  (438,{cls:=.type "function",data:=.func {name:="_law_told",qualname:="_law_told",params:=zcb (zay 59),body:=PySem.FuncBody.stmts (zca (zay 59)),scope:=zbx (zay 59),globals:=3,closure:=[],defaults:=.none,kwdefaults:=.none,pyModule:=.str "law_leastdeeds_k02_beginnings_in_order" 612,code:=.ref 437}}),
  (444,{cls:=.type "code",data:=.fields #[.str "law" 782,.str "law" 783,.str "/claim/cut.py" 784,.int 285 0,.int 1 0,.int 0 0,.int 0 0,.int 3 0,.ref 439,.bool true,.int 181 0,.ref 440,.none,.ref 441,.ref 442,.ref 443,.int 794 0,.int 285 0,.str "/claim/cut.py" 795]}),
  (445,{cls:=.type "function",data:=.func {name:="law",qualname:="law",params:=zcb (zay 60),body:=PySem.FuncBody.stmts (zca (zay 60)),scope:=zbx (zay 60),globals:=3,closure:=[],defaults:=.none,kwdefaults:=.none,pyModule:=.str "law_leastdeeds_k02_beginnings_in_order" 612,code:=.ref 444}})]
def kas:List PySem.Addr:=[3,23,24,43,44,62,63,81,82,93,94,105,106,117,118,129,130,141,142,153,154,165,166,177,178,189,190,201,202,213,214,222,223,229,230,236,237,243,244,250,251,255,256,260,261,267,268,274,275,281,282,288,289,290,296,297,301,302,308,309,313,314,320,321,327,328,334,335,341,342,346,347,353,354,360,361,367,368,372,373,377,378,382,383,389,390,394,395,401,402,406,407,411,412,416,417,423,424,430,431,437,438,444,445]
theorem kase:∀ P,kas=(kh P).map (·.1):=fun _=>by kernel_rfl
def kq:PySem.Program:=PySem.W.view PySem.Challenge.pw_leastdeeds_k02_beginnings_in_order [1,2,3,4,5,6,7,8,9,10,11,12,13,14,15,17,19,20,21,22,23,24,25,26,27,28,29,30,31,32,33,34,35,36,37,38,40,41,42,43,44,45,46,47,48,49,50,51,52,53,54,55,56,57,58,59,60]
abbrev kH:PySem.W.Hook:=PySem.W.kHook kh kas kase
def zmj:List PySem.Str:=["SORTS"]
abbrev krow:=PySem.Challenge.rw_leastdeeds_k02_beginnings_in_order.row
abbrev kX:PySem.Shared->Bool:=fun s=>PySem.W.xlAt kq [] s&&PySem.W.recOk (PySem.W.RowW.records krow.toRowW) s
def kR (w:PySem.World) (os:PySem.OsState):=(HD.zi2 PySem.treeTable PySem.Challenge.pw_leastdeeds_k02_beginnings_in_order w 11 (some (.ref 6)) 9128 (HD.zub w.params os) (PySem.W.topStub PySem.Challenge.pw_leastdeeds_k02_beginnings_in_order)).map fun s=>HD.ztp PySem.Challenge.pw_leastdeeds_k02_beginnings_in_order kq zmj kX true (PySem.W.boot_heap w.params) (fun s=>kas.map s.heap.get?) s.abs
def kG (w:PySem.World):=some (true,PySem.W.openGood kq zmj,(kh w.params).map fun p=>some p.2)
theorem kRs:kR=kR:=rfl
theorem kGs:kG=kG:=rfl
name_quick kq02 for kR by kRs
name_quick kg02 for kG by kGs
theorem zyo:∀ (w:PySem.World) (os:PySem.OsState),PySem.W.Fast.kq02 (w.withFollow "special-get-raises" false) os=PySem.W.Fast.kg02 (w.withFollow "special-get-raises" false):=fun w os=>by kernel_rfl
theorem z1q:∀ (w:PySem.World) (os:PySem.OsState),PySem.W.Fast.kq02 (w.withFollow "special-get-raises" true) os=PySem.W.Fast.kg02 (w.withFollow "special-get-raises" true):=fun w os=>by kernel_rfl
theorem kl:∀ (w:PySem.World) (os:PySem.OsState),kR w os=kG w:=fun w os=>by
  rw [PySem.W.Fast.kq02_eq,PySem.W.Fast.kg02_eq]
  exact PySem.W.byRow2 "special-get-raises" (P:=fun w=>PySem.W.Fast.kq02 w os=PySem.W.Fast.kg02 w) (fun w=>zyo w os) (fun w=>z1q w os) w
theorem kleft:PySem.W.LeftO krow.prog kq zmj kX kH.obs kH.val 9128:=HD.zqv (m0:=11) (ann:=some (.ref 6)) (PySem.W.boot_open (by rfl) (by decide) (fun _=>rfl)) (fun w=>by kernel_rfl) kl
end K02
namespace L2
open PySem PySem.Spec PyProof.Rows
abbrev Key:=Sum Int Str
def zpc:Key->Value->Bool
  | .inl k,v=>Value.isInt k v
  | .inr x,v=>Value.isStrOf x v
def keyH (w:World):Key->Int
  | .inl k=>hashInt k
  | .inr x=>hashStr w x
theorem zdy:∀ {k:Key}{v:Value},zpc k v=true->(∃ i t,k=Sum.inl i /\ v=Value.int i t) \/ (∃ x t,k=Sum.inr x /\ v=Value.str x t)
  | .inl i, v, h => by
    obtain ⟨t,e⟩:=Value.isInt_shape (k:=i) (v:=v) h
    exact .inl ⟨i,t,rfl,e⟩
  | .inr x, v, h => by
    obtain ⟨t,e⟩:=Value.isStrOf_shape (x:=x) (v:=v) h
    exact .inr ⟨x,t,rfl,e⟩
theorem zij (x:Str) (t:Tok):zpc (.inr x) (.str x t)=true:=by simp [zpc,Value.isStrOf]
theorem key_ll (a b:Int):decide ((Sum.inl a:Key)=Sum.inl b)=(a==b):=by
  by_cases e:a=b
  · subst e;simp
  · have h:¬ (Sum.inl a:Key)=Sum.inl b:=fun q=>e (Sum.inl.inj q)
    rw [decide_eq_false h]
    exact (beq_eq_false_iff_ne.mpr e).symm
theorem key_rr (a b:Str):decide ((Sum.inr a:Key)=Sum.inr b)=decide (a=b):=by
  by_cases e:a=b
  · subst e;simp
  · have h:¬ (Sum.inr a:Key)=Sum.inr b:=fun q=>e (Sum.inr.inj q)
    rw [decide_eq_false h,decide_eq_false e]
theorem key_lr (a:Int) (b:Str):decide ((Sum.inl a:Key)=Sum.inr b)=false:=decide_eq_false (fun q=>nomatch q)
theorem key_rl (a:Str) (b:Int):decide ((Sum.inr a:Key)=Sum.inl b)=false:=decide_eq_false (fun q=>nomatch q)
def zi9 (prog:Program) (w:World):PySem.KeyKind prog w Key where
  is:=zpc
  hash:=keyH w
  inj:=fun v a b ha hb=>by
    rcases zdy ha with ⟨i,t,rfl,rfl⟩ | ⟨x,t,rfl,rfl⟩
    · rcases zdy hb with ⟨j,u,rfl,e⟩ | ⟨y,u,rfl,e⟩
      · injection e with e1 _;rw [e1]
      · exact nomatch e
    · rcases zdy hb with ⟨j,u,rfl,e⟩ | ⟨y,u,rfl,e⟩
      · exact nomatch e
      · injection e with e1 _;rw [e1]
  byValue:=fun k v h=>by
    rcases zdy h with ⟨i,t,rfl,rfl⟩ | ⟨x,t,rfl,rfl⟩<;>rfl
  pyHash:=fun hv h=>by
    rcases zdy hv with ⟨i,t,rfl,rfl⟩ | ⟨x,t,rfl,rfl⟩
    · exact wpAny_pyHash_int h
    · exact wpAny_pyHash_str h
  eqBool:=fun hu hv h=>by
    rcases zdy hu with ⟨i,t,rfl,rfl⟩ | ⟨x,t,rfl,rfl⟩
    · rcases zdy hv with ⟨j,u,rfl,rfl⟩ | ⟨y,u,rfl,rfl⟩
      · rw [key_ll] at h;exact wpAny_eqBool_int h
      · rw [key_lr] at h;exact SeqAt.EqAt.int_str i t y u _ _ _ _ h
    · rcases zdy hv with ⟨j,u,rfl,rfl⟩ | ⟨y,u,rfl,rfl⟩
      · rw [key_rl] at h;exact SeqAt.EqAt.str_int x t j u _ _ _ _ h
      · rw [key_rr] at h;exact wpAny_eqBool_str h
  «strs»:=fun k x t v h=>by
    rcases zdy h with ⟨i,u,rfl,e⟩ | ⟨y,u,rfl,e⟩
    · exact nomatch e
    · injection e with e1 _
      subst e1
      cases v<;>rfl
end L2
namespace L2
open PySem PySem.Spec PyProof.Rows
inductive V where
  | non | bl (b:Bool) | int (i:Int) | str (x:Str) | byt (b:Array UInt8) | flt (b:UInt64) | ref (a:Addr) | ty (n:String)
  deriving DecidableEq
def RelV:V->Value->Prop
  | .non,u=>u=Value.none
  | .bl b,u=>u=Value.bool b
  | .int i,u=>∃ t,u=Value.int i t
  | .str x,u=>∃ t,u=Value.str x t
  | .byt b,u=>∃ t,u=Value.bytes b t
  | .flt b,u=>∃ t,u=Value.float b t
  | .ref a,u=>u=Value.ref a
  | .ty n,u=>u=Value.type n
abbrev Vals:List V->List Value->Prop:=Paired RelV
theorem Vals.length {xs:List V}{us:List Value} (r:Vals xs us):xs.length=us.length:=Paired.length r
theorem Vals.get:∀ {xs:List V}{us:List Value}{i:Nat}{x:V},Vals xs us->xs[i]?=some x->∃ u,us[i]?=some u /\ RelV x u
  | _,_,_,_,.nil,e=>by simp at e
  | _,_,0,_,.cons r _,e=>by simp at e;subst e;exact ⟨_,rfl,r⟩
  | _, _, i + 1, x, .cons _ t, e => by
    obtain ⟨u,h1,h2⟩:=Vals.get (i:=i) (x:=x) t (by simpa using e)
    exact ⟨u,by simpa using h1,h2⟩
theorem Vals.set {x:V}{u:Value} (r:RelV x u):∀ {xs:List V}{us:List Value} (i:Nat),Vals xs us->Vals (xs.set i x) (us.set i u)
  | _,_,_,.nil=>.nil
  | _,_,0,.cons _ t=>.cons r t
  | _,_,i+1,.cons q t=>.cons q (Vals.set r i t)
theorem Vals.append:∀ {xs ys:List V}{us ws:List Value},Vals xs us->Vals ys ws->Vals (xs++ys) (us++ws)
  | _,_,_,_,.nil,s=>s
  | _,_,_,_,.cons r t,s=>.cons r (Vals.append t s)
theorem Vals.take:∀ {xs:List V}{us:List Value} (n:Nat),Vals xs us->Vals (xs.take n) (us.take n)
  | _,_,0,_=>.nil
  | _,_,_+1,.nil=>.nil
  | _,_,n+1,.cons r t=>.cons r (Vals.take n t)
theorem Vals.drop:∀ {xs:List V}{us:List Value} (n:Nat),Vals xs us->Vals (xs.drop n) (us.drop n)
  | _,_,0,r=>r
  | _,_,_+1,.nil=>.nil
  | _,_,n+1,.cons _ t=>Vals.drop n t
def RelO:Option V->Option Value->Prop
  | some v,some u=>RelV v u
  | none,none=>True
  | _,_=>False
def KV {κ:Type}:List (κ×V)->List (κ×Value)->Prop:=Paired fun (p:κ×V) (q:κ×Value)=>p.1=q.1 /\ RelV p.2 q.2
def kV:Key->V
  | .inl i=>.int i
  | .inr x=>.str x
inductive HO where
  | lst (xs:List V)
  | tup (xs:List V)
  | dK (kvs:List (Key×V)) | dT (kvs:List (List Key×V))
  | set (S:Int->Bool) (n:Nat)
  | ins (C dx:Addr) (fs:List (Str×V))
  | own (x:Addr)
  | xd (fs:List (Str×V))
  | met (f x:Addr)
  | rng (lo hi:Int)
  | frz (o:Obj) (u:HO)
  | tbl (ps:Array Value)
  | ext (φ:Heap->Prop)
abbrev Hp:=Addr->Option HO
def upd (H:Hp) (a:Addr) (o:HO):Hp:=fun b=>if b=a then some o else H b
theorem zc8 {H:Hp}{a:Addr}{o:HO}:upd H a o a=some o:=by unfold upd;rw [if_pos rfl]
theorem za1 {H:Hp}{a b:Addr}{o:HO} (h:b≠a):upd H a o b=H b:=by unfold upd;rw [if_neg h]
theorem zbh {H:Hp}{a b:Addr}{o:HO} (h:H a=some o) (h':H b=none):a≠b:=by
  intro e;subst e;rw [h] at h';cases h'
section
variable (P:Program) (w:World)
def zdm (H:Hp) (h:Heap) (a:Addr):HO->Prop
  | .lst xs=>xs.length≤sizeLine /\ ∃ (its:List Value) (n:Nat),Vals xs its /\ h.get? a=some {cls:=.type "list",data:=.seq its.toArray n}
  | .tup xs=>xs.length≤sizeLine /\ ∃ its:List Value,Vals xs its /\ IsTup h a its.toArray
  | .dK kvs=>kvs.length≤sizeLine /\ (a==sysModules)=false /\ ∃ vs,KV kvs vs /\ h.DictOf (zi9 P w) a vs
  | .dT kvs=>kvs.length≤sizeLine /\ (a==sysModules)=false /\ ∃ xs:List (List Key×Addr×Value),
      Paired (fun (p:List Key×V) (q:List Key×Addr×Value)=>p.1=q.1 /\ H q.2.1=some (.tup (p.1.map kV)) /\ RelV p.2 q.2.2) kvs xs /\
      ∃ o es ep,h.get? a=some o /\ o.ExactDict /\ o.data=.dict es ep /\ es.toList=xs.map (entryOfKey (tupleKind (zi9 P w))) /\ (xs.map (·.1)).Nodup
  | .set S n=>h.SetOf (intKind P w) a S n
  | .ins C dx fs=>H dx=some (.own a) /\ fs.length≤1000 /\ dx≠a /\ h.get? a=some (PySem.W.instObj C dx) /\
      ∃ mA,h.Ns1 dx mA /\ (∀ f,RelO (fs.lookup f) (mA f)) /\ PySem.Within mA (fs.map (·.1))
  | .own _=>∃ o,h.get? a=some o
  | .xd fs=>∃ mA,h.Ns1 a mA /\ ∀ f,RelO (fs.lookup f) (mA f)
  | .rng lo hi=>∃ t u v,h.get? a=some {cls:=.type "range",data:=.fields #[.int lo t,.int hi u,.int 1 v]}
  | .frz o u=>h.get? a=some o /\ zdm H h a u
  | .tbl ps=>h.get? a=some {cls:=.none,data:=.fields ps}
  | .met f x=>h.get? a=some (PySem.W.methodObj (.ref f) (.ref x))
  | .ext φ=>φ h /\ (∃ o,h.get? a=some o) /\ ∀ h1 h2:Heap,φ h1->(∀ o,h1.get? a=some o->h2.get? a=some o)->φ h2
def HOk (H:Hp) (h:Heap):Prop:=∀ a o,H a=some o->zdm P w H h a o
end
section
variable {P:Program}{w:World}{H H':Hp}{h h':Heap}{a:Addr}{o:HO}
theorem zdm.lt (x:zdm P w H h a o):a < h.objs.size:=by
  cases o with
  | lst xs=>obtain ⟨_,_,_,_,e⟩:=x;exact Heap.lt_size e
  | tup xs=>obtain ⟨_,_,_,p⟩:=x;exact p.lt
  | dK kvs=>obtain ⟨_,_,_,_,o,_,_,e,_⟩:=x;exact Heap.lt_size e
  | dT kvs=>obtain ⟨_,_,_,_,o,_,_,e,_⟩:=x;exact Heap.lt_size e
  | set S n=>obtain ⟨o,_,_,_,e,_⟩:=x;exact Heap.lt_size e
  | ins C dx fs=>obtain ⟨_,_,_,e,_⟩:=x;exact Heap.lt_size e
  | own y=>obtain ⟨_,e⟩:=x;exact Heap.lt_size e
  | xd fs=>obtain ⟨_,⟨_,_,_,e,_⟩,_⟩:=x;exact Heap.lt_size e
  | rng lo hi=>obtain ⟨_,_,_,e⟩:=x;exact Heap.lt_size e
  | frz ob u=>obtain ⟨e,_⟩:=x;exact Heap.lt_size e
  | tbl ps=>exact Heap.lt_size (show h.get? a=some _ from x)
  | met f y=>exact Heap.lt_size (show h.get? a=some _ from x)
  | ext φ=>obtain ⟨_,⟨_,e⟩,_⟩:=x;exact Heap.lt_size e
theorem Paired.mapP {α β:Type}{F G:α->β->Prop}:∀ {l₁:List α}{l₂:List β},Paired F l₁ l₂->(∀ a b,F a b->G a b)->Paired G l₁ l₂
  | _,_,.nil,_=>.nil
  | _,_,.cons r t,f=>.cons (f _ _ r) (Paired.mapP t f)
theorem zdm.stay (x:zdm P w H h a o) (k:∀ b u,(b=a \/ H b=some (.own a))->h.get? b=some u->h'.get? b=some u)
    (ho:∀ b,H b=some (.own a)->H' b=some (.own a)) (ht:∀ b xs,H b=some (.tup xs)->H' b=some (.tup xs)):zdm P w H' h' a o:=by
  induction o with
  | lst xs=>obtain ⟨z,its,n,r,e⟩:=x;exact ⟨z,its,n,r,k _ _ (.inl rfl) e⟩
  | tup xs=>obtain ⟨z,its,r,ob,e,c⟩:=x;exact ⟨z,its,r,ob,k _ _ (.inl rfl) e,c⟩
  | dK kvs=>obtain ⟨z,y,vs,r,ob,es,ep,e,c⟩:=x;exact ⟨z,y,vs,r,ob,es,ep,k _ _ (.inl rfl) e,c⟩
  | dT kvs =>
    obtain ⟨z,y,xs,r,ob,es,ep,e,c⟩:=x
    exact ⟨z,y,xs,Paired.mapP r fun p q z=>⟨z.1,ht _ _ z.2.1,z.2.2⟩,ob,es,ep,k _ _ (.inl rfl) e,c⟩
  | set S n=>obtain ⟨ob,es,ep,t,e,c⟩:=x;exact ⟨ob,es,ep,t,k _ _ (.inl rfl) e,c⟩
  | ins C dx fs =>
    obtain ⟨d,z,ne,e,mA,⟨od,es,ep,e2,c⟩,r⟩:=x
    exact ⟨ho _ d,z,ne,k _ _ (.inl rfl) e,mA,⟨od,es,ep,k _ _ (.inr d) e2,c⟩,r⟩
  | own y=>obtain ⟨ob,e⟩:=x;exact ⟨ob,k _ _ (.inl rfl) e⟩
  | xd fs=>obtain ⟨mA,⟨od,es,ep,e,c⟩,r⟩:=x;exact ⟨mA,⟨od,es,ep,k _ _ (.inl rfl) e,c⟩,r⟩
  | rng lo hi=>obtain ⟨t,u,v,e⟩:=x;exact ⟨t,u,v,k _ _ (.inl rfl) e⟩
  | frz ob u ih=>obtain ⟨e,q⟩:=x;exact ⟨k _ _ (.inl rfl) e,ih q⟩
  | tbl ps =>
    have e:h.get? a=some {cls:=.none,data:=.fields ps}:=x
    show h'.get? a=some {cls:=.none,data:=.fields ps}
    exact k a _ (.inl rfl) e
  | met f y =>
    have e:h.get? a=some (PySem.W.methodObj (.ref f) (.ref y)):=x
    show h'.get? a=some (PySem.W.methodObj (.ref f) (.ref y))
    exact k a _ (.inl rfl) e
  | ext φ=>obtain ⟨p,⟨o,e⟩,st⟩:=x;exact ⟨st _ _ p fun o q=>k _ _ (.inl rfl) q,⟨o,k _ _ (.inl rfl) e⟩,st⟩
theorem HOk.lt (x:HOk P w H h) (e:H a=some o):a < h.objs.size:=(x a o e).lt
theorem HOk.fresh (x:HOk P w H h) (e:h.objs.size≤a):H a=none:=by
  cases q:H a with
  | none=>rfl
  | some u=>exact absurd (Nat.lt_of_lt_of_le (x.lt q) e) (Nat.lt_irrefl _)
theorem HOk.kept (x:HOk P w H h) (k:∀ b u,h.get? b=some u->h'.get? b=some u):HOk P w H h':=fun a o e=>
  (x a o e).stay (fun b u _ q=>k b u q) (fun _ q=>q) fun _ _ q=>q
theorem HOk.laid (x:HOk P w H h) (k:∀ b u,h.get? b=some u->h'.get? b=some u) (hp:h.objs.size≤a) (new:zdm P w (upd H a o) h' a o):HOk P w (upd H a o) h':=fun b u e=>by
  have hn:=x.fresh hp
  by_cases hb:b=a
  · subst hb;rw [zc8] at e;cases e;exact new
  · rw [za1 hb] at e
    exact (x b u e).stay (fun c v _ q=>k c v q) (fun c q=>by rw [za1 (zbh q hn)];exact q) fun c xs q=>by rw [za1 (zbh q hn)];exact q
end
def Rd (H:Hp) (a:Addr) (u:HO):Prop:=H a=some u \/ ∃ o,H a=some (.frz o u)
theorem Rd.of {H:Hp}{a:Addr}{u:HO} (h:H a=some u):Rd H a u:=.inl h
theorem Rd.ok {P:Program}{w:World}{H:Hp}{h:Heap}{a:Addr}{u:HO} (r:Rd H a u) (x:HOk P w H h):zdm P w H h a u:=by
  rcases r with r | ⟨o,r⟩
  · exact x a u r
  · obtain ⟨_,q⟩:=x a _ r
    exact q
def Mut:Option HO->Prop
  | some (.lst _)=>True
  | some (.dK _)=>True
  | some (.dT _)=>True
  | some (.set _ _)=>True
  | some (.ins _ _ _)=>True
  | some (.ext _)=>True
  | _=>False
section
variable {P:Program}{w:World}{H:Hp}{h h':Heap}{x e:Addr}{o':HO}
theorem HOk.write (ok:HOk P w H h) (mu:Mut (H x)) (he:e=x \/ H e=some (.own x)) (k:∀ b u,b≠e->h.get? b=some u->h'.get? b=some u) (heo:∃ u,h'.get? e=some u)
    (new:zdm P w (upd H x o') h' x o'):HOk P w (upd H x o') h':=fun b u q=>by
  have nown:∀ c y,H c=some (.own y)->c≠x:=fun c y r z=>by subst z;rw [r] at mu;exact mu
  have ntup:∀ c xs,H c=some (.tup xs)->c≠x:=fun c xs r z=>by subst z;rw [r] at mu;exact mu
  by_cases hb:b=x
  · subst hb;rw [zc8] at q;cases q;exact new
  · rw [za1 hb] at q
    by_cases hbe:b=e
    · have q':H b=some (.own x):=by
        rcases he with z | z
        · exact absurd (hbe.trans z) hb
        · rw [hbe];exact z
      rw [q] at q';cases q'
      obtain ⟨v,hv⟩:=heo
      exact ⟨v,by rw [hbe];exact hv⟩
    · refine (ok b u q).stay (fun c v hc r=>k c v ?_ r) (fun c r=>by rw [za1 (nown c b r)];exact r) fun c xs r=>by rw [za1 (ntup c xs r)];exact r
      rcases hc with rfl | hc
      · exact hbe
      · rintro rfl
        rcases he with z | z
        · exact nown c b hc z
        · rw [hc] at z;cases z;exact hb rfl
end
structure Un (fs ex:List Addr) (H H':Hp) (h h':Heap):Prop where
  keep:∀ b o,h.get? b=some o->H b=none->b∉fs->b∉ex->h'.get? b=some o
  slot:∀ b o,h.get? b=some o->H b=none->b∈fs->b∉ex->∃ sl,h'.get? b=some {o with slots:=sl}
  free:∀ b o,h.get? b=some o->H b=none->b∉ex->H' b=none
  there:∀ b o,h.get? b=some o->b∉ex->∃ o',h'.get? b=some o'
  tups:∀ b xs,H b=some (.tup xs)->H' b=some (.tup xs)
  frzs:∀ b o u,H b=some (.frz o u)->H' b=some (.frz o u)
  tbls:∀ b ps,H b=some (.tbl ps)->∃ more,H' b=some (.tbl (ps++more))
section
variable {fs fs' ex ex':List Addr}{H H1 H2:Hp}{h h1 h2 h':Heap}{a x e:Addr}{o:HO}
theorem Un.any (u:Un fs ex H H1 h h1) {b:Addr}{ob:Obj} (q:h.get? b=some ob) (n:H b=none) (hx:b∉ex):∃ sl,h1.get? b=some {ob with slots:=sl}:=by
  by_cases hb:b∈fs
  · exact u.slot b ob q n hb hx
  · exact ⟨ob.slots,u.keep b ob q n hb hx⟩
theorem Un.trans (a:Un fs ex H H1 h h1) (b:Un fs ex H1 H2 h1 h2):Un fs ex H H2 h h2 where
  keep:=fun c ob q n hc hx=>b.keep c ob (a.keep c ob q n hc hx) (a.free c ob q n hx) hc hx
  slot:=fun c ob q n hc hx=>by
    obtain ⟨sl,e1⟩:=a.slot c ob q n hc hx
    obtain ⟨sl',e2⟩:=b.slot c _ e1 (a.free c ob q n hx) hc hx
    exact ⟨sl',e2⟩
  free:=fun c ob q n hx=>by
    obtain ⟨o',e1⟩:=a.there c ob q hx
    exact b.free c o' e1 (a.free c ob q n hx) hx
  there:=fun c ob q hx=>by
    obtain ⟨o',e1⟩:=a.there c ob q hx
    exact b.there c o' e1 hx
  tups:=fun c xs q=>b.tups c xs (a.tups c xs q)
  frzs:=fun c ob xs q=>b.frzs c ob xs (a.frzs c ob xs q)
  tbls:=fun c ps q=>by
    obtain ⟨m1,e1⟩:=a.tbls c ps q
    obtain ⟨m2,e2⟩:=b.tbls c _ e1
    exact ⟨m1++m2,by rw [e2,Array.append_assoc]⟩
theorem Un.kept (k:∀ b u,h.get? b=some u->h'.get? b=some u):Un fs ex H H h h':=
  ⟨fun b ob q _ _ _=>k b ob q,fun b ob q _ _ _=>⟨ob.slots,k b ob q⟩,fun _ _ _ n _=>n,fun b ob q _=>⟨ob,k b ob q⟩,fun _ _ q=>q,fun _ _ _ q=>q,fun _ ps q=>⟨#[],by rw [q];simp⟩⟩
theorem Un.refl:Un fs ex H H h h:=Un.kept fun _ _ q=>q
theorem Un.laid (k:∀ b u,h.get? b=some u->h'.get? b=some u) (hp:h.objs.size≤a) (hn:H a=none):Un fs ex H (upd H a o) h h' where
  keep:=fun b u q _ _ _=>k b u q
  slot:=fun b u q _ _ _=>⟨u.slots,k b u q⟩
  free:=fun b u q n _=>by rw [za1 (Nat.ne_of_lt (Nat.lt_of_lt_of_le (Heap.lt_size q) hp))];exact n
  there:=fun b u q _=>⟨u,k b u q⟩
  tups:=fun b xs q=>by rw [za1 (zbh q hn)];exact q
  frzs:=fun b u xs q=>by rw [za1 (zbh q hn)];exact q
  tbls:=fun b ps q=>⟨#[],by rw [za1 (zbh q hn),q];simp⟩
theorem Un.write (mu:Mut (H x)) (he:e=x \/ H e=some (.own x)) (k:∀ b u,b≠e->h.get? b=some u->h'.get? b=some u) (heo:∃ u,h'.get? e=some u):Un fs ex H (upd H x o) h h':=by
  have hx:∀ b,H b=none->b≠x:=fun b n z=>by subst z;rw [n] at mu;exact mu
  have hb:∀ b,H b=none->b≠e:=fun b n z=>by
    subst z
    rcases he with r | r
    · exact hx b n r
    · rw [n] at r;cases r
  have hm:∀ b u,H b=some u->¬ Mut (some u)->b≠x:=fun b u q nm z=>by subst z;rw [q] at mu;exact nm mu
  refine ⟨fun b u q n _ _=>k b u (hb b n) q,fun b u q n _ _=>⟨u.slots,k b u (hb b n) q⟩,fun b u q n _=>by rw [za1 (hx b n)];exact n,fun b u q _=>?_,
    fun b xs q=>by rw [za1 (hm b _ q fun z=>z)];exact q,fun b u xs q=>by rw [za1 (hm b _ q fun z=>z)];exact q,fun b ps q=>⟨#[],by rw [za1 (hm b _ q fun z=>z),q];simp⟩⟩
  by_cases hbe:b=e
  · subst hbe;exact heo
  · exact ⟨u,k b u hbe q⟩
theorem Un.mono (u:Un fs ex H H1 h h1) (hs:∀ b∈fs,b∈fs') (hx:∀ b∈ex,b∈ex'):Un fs' ex' H H1 h h1:=
  ⟨fun b ob q n hb he=>u.keep b ob q n (fun z=>hb (hs b z)) fun z=>he (hx b z),fun _ _ q n _ he=>u.any q n fun z=>he (hx _ z),fun b ob q n he=>u.free b ob q n fun z=>he (hx b z),fun b ob q he=>u.there b ob q fun z=>he (hx b z),u.tups,u.frzs,u.tbls⟩
end
def trk (h:Heap) (H:Hp):List Addr:=(List.range h.objs.size).filter fun a=>(H a).isSome
def zjm (h:Heap) (H:Hp):Heap:=PySem.W.hideAll h (trk h H)
theorem zwe (h:Heap) (H:Hp):(zjm h H).objs.size=h.objs.size:=PySem.W.hideAll_size _ _
theorem zyr {h:Heap}{H:Hp}{b:Addr}{o:Obj} (e:h.get? b=some o) (n:H b=none):(zjm h H).get? b=some o:=
  PySem.W.hideAll_get _ e fun hm=>by
    have q:(H b).isSome=true:=(List.mem_filter.mp hm).2
    rw [n] at q;simp at q
theorem z1i {h:Heap}{H:Hp}{b:Addr}{o:Obj} (e:(zjm h H).get? b=some o):h.get? b=some o /\ H b=none:=by
  have e':h.get? b=some o:=PySem.W.of_hideAll (trk h H) e
  refine ⟨e',?_⟩
  cases q:H b with
  | none=>rfl
  | some x =>
    have hm:b∈trk h H:=List.mem_filter.mpr ⟨List.mem_range.mpr (Heap.lt_size e'),by simp [q]⟩
    have z:(zjm h H).get? b=none:=PySem.W.hideAll_none (trk h H) hm
    rw [z] at e;cases e
def z2l (g h:Heap) (L:Addr):List (Addr×Obj):=(List.range h.objs.size).filterMap fun a=>if a=L \/ (g.get? a).isSome=true then none else (h.get? a).map fun o=>(a,o)
def rest (g h:Heap) (L d:Addr):List (Addr×Obj):=(z2l g h L).filter fun p=>decide (p.1≠d)
end L2
namespace L2
open PySem PySem.Spec PyProof.Rows
structure Mod (K:PySem.W.Frag) (mg:Str->Option Value) (base:Heap):Prop where
  kin:K.In base
  glob:base.Ns mainGlobals mg
  blt:∃ mb,base.Ns builtinsNs mb /\ ∀ x:Str,x≠"__name__"->mb x=bootBuiltins x
  nolimit:base.NoLimit
structure Cx where
  prog:Program
  w:World
  K:PySem.W.Frag
  mg:Str->Option Value
  base:Heap
  A:Around
  N:List Str
  s₀:Shared
  H₀:Hp
  env:Env
  outer:List Env
  stack:List Env
  ex:List Addr
  fn:Str->Bool
  calm:Bool
  pn:List (Addr×Obj)
  xe:Value->Shared->Prop
def frs (l:List Env):List Addr:=l.filterMap (·.frame)
abbrev Cx.fs (X:Cx):List Addr:=frs X.outer
def Vis (sc:Scope) (x:Str):Prop:=sc.names.lookup x=some .local \/ sc.names.lookup x=some .cell \/ sc.names.lookup x=some .free
def Loc (sc:Scope) (x:Str):Prop:=sc.names.lookup x=some .local \/ sc.names.lookup x=some .cell
def Look (env:Env) (h:Heap) (m:Str->Option Value) (x:Str) (u:Value):Prop:=
  (env.kindOf x=some .local /\ m x=some u) \/ ((env.kindOf x=some .cell \/ env.kindOf x=some .free) /\ ∃ c,env.cells.lookup x=some c /\ h.IsCell c (some u))
structure Cx.Ok (X:Cx):Prop where
  mod:Mod X.K X.mg X.base
  kind:X.env.scope.kind=.function
  glob:X.env.globals=mainGlobals
  blt:X.env.builtins=builtinsNs
  above:X.s₀.heap.objs.size≤X.env.locals
  inj:∀ x y c,X.env.cells.lookup x=some c->X.env.cells.lookup y=some c->x=y
  has:∀ x,(X.env.kindOf x=some .cell \/ X.env.kindOf x=some .free)->∃ c,X.env.cells.lookup x=some c
  cab:∀ x c,X.fn x=true->X.env.cells.lookup x=some c->X.s₀.heap.objs.size≤c
  hd:X.calm=true->X.A.handled=none
  frames:X.A.frames=some X.stack
  stk:X.stack=X.outer \/ (X.stack=X.env::X.outer /\ X.env.frame=some X.env.locals)
  exf:∀ b∈X.ex,b≠X.env.locals /\ ∀ x c,X.env.cells.lookup x=some c->c≠b
  bs:∀ b o,X.base.get? b=some o->X.s₀.heap.get? b=some o /\ X.H₀ b=none
  bsz:X.base.objs.size≤X.s₀.heap.objs.size
  noex:∀ b o,X.base.get? b=some o->b∉X.ex
  exfs:∀ b∈X.ex,b∉X.fs
  funs:X.s₀.heap.FunFrames X.base X.outer
  frf:∀ b∈X.fs,X.H₀ b=none
structure Inv (X:Cx) (pins:List (Addr×Obj)) (σ:List (Option V)) (H:Hp) (s:Shared):Prop where
  ok:X.Ok
  os:s.os=X.s₀.os
  bare:AllBare s.gens
  base:Un X.fs X.ex X.H₀ H X.s₀.heap s.heap
  loc:∃ m,s.heap.Ns X.env.locals m /\ ∀ (i:Nat) (x:Str) (v:V),X.N[i]?=some x->σ[i]?=some (some v)->Vis X.env.scope x->∃ u,RelV v u /\ Look X.env s.heap m x u
  cell:∀ x c,X.env.cells.lookup x=some c->∃ v,s.heap.IsCell c v
  free:H X.env.locals=none
  freeC:∀ x c,X.env.cells.lookup x=some c->H c=none
  pin:∀ p∈X.pn++pins,s.heap.get? p.1=some p.2 /\ H p.1=none /\ p.1≠X.env.locals /\ p.1∉X.fs /\ ∀ v,p.2.data≠.cell v
  hok:HOk X.prog X.w H s.heap
  len:σ.length=X.N.length
section
variable {X:Cx}{pins:List (Addr×Obj)}{σ:List (Option V)}{H H':Hp}{s:Shared}{h':Heap}
theorem Cx.Ok.nofr (ok:X.Ok) {b:Addr}{o:Obj} (e:X.base.get? b=some o):b∉X.fs:=fun hb=>by
  have:=(ok.funs.mem hb).1
  rw [e] at this;cases this
theorem Inv.bs (I:Inv X pins σ H s):∀ b o,X.base.get? b=some o->s.heap.get? b=some o /\ H b=none:=fun b o e=>
  ⟨I.base.keep b o (I.ok.bs b o e).1 (I.ok.bs b o e).2 (I.ok.nofr e) (I.ok.noex b o e),I.base.free b o (I.ok.bs b o e).1 (I.ok.bs b o e).2 (I.ok.noex b o e)⟩
theorem Inv.bk (I:Inv X pins σ H s):∀ b o,X.base.get? b=some o->s.heap.get? b=some o:=fun b o e=>(I.bs b o e).1
theorem Inv.mod (I:Inv X pins σ H s):Mod X.K X.mg X.base:=I.ok.mod
theorem Inv.kIn (I:Inv X pins σ H s):X.K.In s.heap:=I.ok.mod.kin.keeps I.bk
theorem Inv.nolimit (I:Inv X pins σ H s):s.heap.NoLimit:=I.ok.mod.nolimit.keeps I.bk
theorem Inv.lt (I:Inv X pins σ H s):X.env.locals < s.heap.objs.size:=let ⟨_,hn,_⟩:=I.loc;hn.lt
theorem Inv.sz (I:Inv X pins σ H s):X.s₀.heap.objs.size≤s.heap.objs.size:=Nat.le_trans I.ok.above (Nat.le_of_lt I.lt)
theorem Inv.nofs (I:Inv X pins σ H s) {a:Addr} (h:s.heap.objs.size≤a):a∉X.fs:=fun hb=>by
  obtain ⟨_,o,ho,_⟩:=I.ok.funs.mem hb
  exact absurd (Nat.lt_of_lt_of_le (Heap.lt_size ho) (Nat.le_trans I.sz h)) (Nat.lt_irrefl _)
theorem Inv.cne (I:Inv X pins σ H s):∀ x c,X.env.cells.lookup x=some c->c≠X.env.locals:=fun x c e z=>by
  obtain ⟨v,o,ho,hd⟩:=I.cell x c e
  obtain ⟨m,⟨o',es,ep,ho',hd',_⟩,_⟩:=I.loc
  rw [z,ho'] at ho;cases ho;rw [hd'] at hd;cases hd
theorem Inv.funs (I:Inv X pins σ H s):s.heap.FunFrames X.base X.outer:=by
  have all:∀ (l:List Env),(∀ b∈frs l,b∈X.fs)->X.s₀.heap.FunFrames X.base l->s.heap.FunFrames X.base l:=by
    intro l
    induction l with
    | nil=>intro _ _;trivial
    | cons env r ih =>
      intro hs hl
      obtain ⟨hk,⟨L,o,hf,hn,ho,hd⟩,hr⟩:=hl
      have hL:L∈X.fs:=hs L (by unfold frs;rw [List.filterMap_cons,hf];exact List.mem_cons_self)
      obtain ⟨sl,e⟩:=I.base.slot L o ho (I.ok.frf L hL) hL fun z=>I.ok.exfs L z hL
      exact ⟨hk,⟨L,_,hf,hn,e,hd⟩,ih (fun b hb=>hs b (by unfold frs;rw [List.filterMap_cons,hf];exact List.mem_cons_of_mem _ hb)) hr⟩
  exact all X.outer (fun _ hb=>hb) I.ok.funs
theorem Inv.stack (I:Inv X pins σ H s):s.heap.FunFrames X.base X.stack:=by
  rcases I.ok.stk with e | ⟨e,hf⟩
  · rw [e];exact I.funs
  · rw [e]
    obtain ⟨m,hn,_⟩:=I.loc
    refine .cons (by rw [I.ok.kind];decide) hf hn ?_ I.funs
    exact Heap.get?_none_of_le (Nat.le_trans I.ok.bsz I.ok.above)
theorem Inv.stkSub (I:Inv X pins σ H s):∀ b∈frs X.stack,b∈X.env.locals::X.fs:=fun b hb=>by
  rcases I.ok.stk with e | ⟨e,hf⟩
  · rw [e] at hb;exact List.mem_cons_of_mem _ hb
  · rw [e] at hb
    unfold frs at hb
    rw [List.filterMap_cons,hf] at hb
    exact hb
theorem Inv.stkFree (I:Inv X pins σ H s):∀ b∈frs X.stack,H b=none:=fun b hb=>by
  rcases List.mem_cons.mp (I.stkSub b hb) with e | hb
  · rw [e];exact I.free
  · obtain ⟨_,o,ho,_⟩:=I.ok.funs.mem hb
    exact I.base.free b o ho (I.ok.frf b hb) fun z=>I.ok.exfs b z hb
theorem Inv.step {g':Array GenState}{t':Nat}{d':Drawn}{ch:List Addr} (I:Inv X pins σ H s)
    (hch:∀ b∈ch,(b∈X.ex \/ X.s₀.heap.objs.size≤b) /\ b≠X.env.locals /\ (∀ x c,X.env.cells.lookup x=some c->c≠b) /\ ∀ p∈X.pn++pins,p.1≠b)
    (keep:∀ b o,b≠X.env.locals->b∉X.fs->b∉ch->s.heap.get? b=some o->H b=none->h'.get? b=some o)
    (slot:∀ b o,b≠X.env.locals->b∈X.fs->b∉ch->s.heap.get? b=some o->H b=none->∃ sl,h'.get? b=some {o with slots:=sl}) (free:∀ b o,b∉ch->s.heap.get? b=some o->H b=none->H' b=none)
    (there:∀ b o,b∉ch->s.heap.get? b=some o->∃ o',h'.get? b=some o')
    (tups:∀ b xs,H b=some (.tup xs)->H' b=some (.tup xs)) (frzs:∀ b o u,H b=some (.frz o u)->H' b=some (.frz o u)) (tbls:∀ b ps,H b=some (.tbl ps)->∃ more,H' b=some (.tbl (ps++more)))
    (ns:∀ m,s.heap.Ns X.env.locals m->h'.Ns X.env.locals m) (hok:HOk X.prog X.w H' h') (hg:AllBare g') :
    Inv X pins σ H' {s with heap:=h',gens:=g',drawn:=d',toks:=t'}:=by
  have neL:∀ b o,X.s₀.heap.get? b=some o->b≠X.env.locals:=fun b o e=>Nat.ne_of_lt (Nat.lt_of_lt_of_le (Heap.lt_size e) I.ok.above)
  have neC:∀ b o,X.s₀.heap.get? b=some o->b∉X.ex->b∉ch:=fun b o e hx hb=>by
    rcases (hch b hb).1 with z | z
    · exact hx z
    · exact absurd (Nat.lt_of_lt_of_le (Heap.lt_size e) z) (Nat.lt_irrefl _)
  have cellK:∀ x c,X.env.cells.lookup x=some c->∀ v,s.heap.IsCell c v->h'.IsCell c v:=fun x c e v ⟨o,ho,hd⟩=>by
    have nch:c∉ch:=fun z=>(hch c z).2.2.1 x c e rfl
    by_cases hc:c∈X.fs
    · obtain ⟨sl,q⟩:=slot c o (I.cne x c e) hc nch ho (I.freeC x c e)
      exact ⟨_,q,hd⟩
    · exact ⟨o,keep c o (I.cne x c e) hc nch ho (I.freeC x c e),hd⟩
  refine ⟨I.ok,I.os,hg,⟨fun b o e n hb hx=>?_,fun b o e n hb hx=>?_,fun b o e n hx=>?_,fun b o e hx=>?_,fun b xs e=>tups b xs (I.base.tups b xs e),fun b o xs e=>frzs b o xs (I.base.frzs b o xs e),fun b ps e=>?_⟩,?_,fun x c e=>?_,?_,fun x c e=>?_,fun p hp=>?_,hok,I.len⟩
  · exact keep b o (neL b o e) hb (neC b o e hx) (I.base.keep b o e n hb hx) (I.base.free b o e n hx)
  · obtain ⟨sl,e1⟩:=I.base.slot b o e n hb hx
    obtain ⟨sl',e2⟩:=slot b _ (neL b o e) hb (neC b o e hx) e1 (I.base.free b o e n hx)
    exact ⟨sl',e2⟩
  · obtain ⟨o',e1⟩:=I.base.there b o e hx
    exact free b o' (neC b o e hx) e1 (I.base.free b o e n hx)
  · obtain ⟨o',e1⟩:=I.base.there b o e hx
    exact there b o' (neC b o e hx) e1
  · obtain ⟨m1,e1⟩:=I.base.tbls b ps e
    obtain ⟨m2,e2⟩:=tbls b _ e1
    exact ⟨m1++m2,by rw [e2,Array.append_assoc]⟩
  · obtain ⟨m,hn,hl⟩:=I.loc
    refine ⟨m,ns m hn,fun i x v e1 e2 e3=>?_⟩
    obtain ⟨u,r,l⟩:=hl i x v e1 e2 e3
    refine ⟨u,r,?_⟩
    rcases l with l | ⟨k,c,e,z⟩
    · exact .inl l
    · exact .inr ⟨k,c,e,cellK x c e _ z⟩
  · obtain ⟨v,z⟩:=I.cell x c e
    exact ⟨v,cellK x c e v z⟩
  · obtain ⟨m,⟨o,_,_,ho,_⟩,_⟩:=I.loc
    exact free _ o (fun z=>(hch _ z).2.1 rfl) ho I.free
  · obtain ⟨v,o,ho,hd⟩:=I.cell x c e
    exact free c o (fun z=>(hch c z).2.2.1 x c e rfl) ho (I.freeC x c e)
  · obtain ⟨e,n,ne,nf,d⟩:=I.pin p hp
    have nch:p.1∉ch:=fun z=>(hch p.1 z).2.2.2 p hp rfl
    exact ⟨keep p.1 p.2 ne nf nch e n,free p.1 p.2 nch e n,ne,nf,d⟩
theorem Inv.un {t':Nat} (I:Inv X pins σ H s) (u:Un X.fs [] H H' s.heap h') (hok:HOk X.prog X.w H' h'):Inv X pins σ H' {s with heap:=h',toks:=t'}:=by
  obtain ⟨m,⟨o,es,ep,ho,r⟩,_⟩:=id I.loc
  obtain ⟨sl,hL⟩:=u.any ho I.free (by simp)
  exact I.step (g':=s.gens) (d':=s.drawn) (ch:=[]) (fun _ z=>nomatch z) (fun b o _ hb _ e n=>u.keep b o e n hb (by simp)) (fun b o _ hb _ e n=>u.slot b o e n hb (by simp)) (fun b o _ e n=>u.free b o e n (by simp)) (fun b o _ e=>u.there b o e (by simp)) u.tups u.frzs u.tbls (fun m' hm=>by
    obtain ⟨o',es',ep',ho',r'⟩:=hm
    rw [ho] at ho';cases ho'
    exact ⟨_,es',ep',hL,r'⟩) hok I.bare
theorem Inv.call {g':Array GenState}{t':Nat}{d':Drawn}{ch:List Addr} (I:Inv X pins σ H s) (u:Un (frs X.stack) ch H H' s.heap h') (hok:HOk X.prog X.w H' h') (hg:AllBare g')
    (hch:∀ b∈ch,(b∈X.ex \/ X.s₀.heap.objs.size≤b) /\ b≠X.env.locals /\ (∀ x c,X.env.cells.lookup x=some c->c≠b) /\ ∀ p∈X.pn++pins,p.1≠b) :
    Inv X pins σ H' {s with heap:=h',gens:=g',drawn:=d',toks:=t'}:=by
  obtain ⟨m,⟨o,es,ep,ho,r⟩,_⟩:=id I.loc
  obtain ⟨sl,hL⟩:=u.any ho I.free fun z=>(hch _ z).2.1 rfl
  exact I.step (ch:=ch) hch (fun b o hL hb hc e n=>u.keep b o e n (fun z=>(List.mem_cons.mp (I.stkSub b z)).elim hL hb) hc) (fun b o _ _ hc e n=>u.any e n hc) (fun b o hc e n=>u.free b o e n hc) (fun b o hc e=>u.there b o e hc) u.tups u.frzs u.tbls (fun m' hm=>by
    obtain ⟨o',es',ep',ho',r'⟩:=hm
    rw [ho] at ho';cases ho'
    exact ⟨_,es',ep',hL,r'⟩) hok hg
theorem Inv.turned {t':Nat}{it:Addr} (I:Inv X pins σ H s) (k:∀ b o,b≠it->s.heap.get? b=some o->h'.get? b=some o) (hn:H it=none) (hL:it≠X.env.locals)
    (h1:it∈X.ex \/ X.s₀.heap.objs.size≤it) (h2:∀ x c,X.env.cells.lookup x=some c->c≠it) (h3:∀ p∈X.pn++pins,p.1≠it):Inv X pins σ H {s with heap:=h',toks:=t'}:=by
  have nit:∀ b u,H b=some u->b≠it:=fun b u e z=>by rw [z,hn] at e;cases e
  refine I.step (g':=s.gens) (d':=s.drawn) (ch:=[it]) (fun b hb=>?_) (fun b o _ _ hc e _=>k b o (fun z=>hc (by simp [z])) e) (fun b o _ _ hc e _=>⟨o.slots,k b o (fun z=>hc (by simp [z])) e⟩) (fun _ _ _ _ n=>n)
    (fun b o hc e=>⟨o,k b o (fun z=>hc (by simp [z])) e⟩) (fun _ _ e=>e) (fun _ _ _ e=>e) (fun b ps e=>⟨#[],by rw [e];simp⟩) (fun m hm=>?_) (fun b u e=>?_) I.bare
  · have e:b=it:=by simpa using hb
    subst e
    exact ⟨h1,hL,h2,h3⟩
  · obtain ⟨o,es,ep,ho,r⟩:=hm
    exact ⟨o,es,ep,k _ o (Ne.symm hL) ho,r⟩
  · refine (I.hok b u e).stay (fun c v hc q=>k c v ?_ q) (fun _ q=>q) fun _ _ q=>q
    rcases hc with z | z
    · rw [z];exact nit b u e
    · exact nit c _ z
theorem Inv.tok (I:Inv X pins σ H s) (t:Nat):Inv X pins σ H {s with toks:=t}:=I.un (h':=s.heap) (t':=t) Un.refl I.hok
theorem Inv.kept {t':Nat} (I:Inv X pins σ H s) (k:∀ b u,s.heap.get? b=some u->h'.get? b=some u):Inv X pins σ H {s with heap:=h',toks:=t'}:=I.un (Un.kept k) (I.hok.kept k)
theorem Inv.laid {a:Addr}{o:HO}{t':Nat} (I:Inv X pins σ H s) (k:∀ b u,s.heap.get? b=some u->h'.get? b=some u) (hp:s.heap.objs.size≤a) (new:zdm X.prog X.w (upd H a o) h' a o) :
    Inv X pins σ (upd H a o) {s with heap:=h',toks:=t'}:=I.un (Un.laid k hp (I.hok.fresh hp)) (I.hok.laid k hp new)
theorem Inv.write {x e:Addr}{o:HO}{t':Nat} (I:Inv X pins σ H s) (mu:Mut (H x)) (he:e=x \/ H e=some (.own x)) (k:∀ b u,b≠e->s.heap.get? b=some u->h'.get? b=some u) (heo:∃ u,h'.get? e=some u)
    (new:zdm X.prog X.w (upd H x o) h' x o):Inv X pins σ (upd H x o) {s with heap:=h',toks:=t'}:=I.un (Un.write mu he k heo) (I.hok.write mu he k heo new)
theorem Inv.weak {σ':List (Option V)} (I:Inv X pins σ H s) (hl:σ'.length=σ.length) (w:∀ (i:Nat) v,σ'[i]?=some (some v)->σ[i]?=some (some v)):Inv X pins σ' H s:=
  ⟨I.ok,I.os,I.bare,I.base,let ⟨m,hn,hl'⟩:=I.loc;⟨m,hn,fun i x v e1 e2 e3=>hl' i x v e1 (w i v e2) e3⟩,I.cell,I.free,I.freeC,I.pin,I.hok,hl.trans I.len⟩
theorem Inv.pins_of {pins':List (Addr×Obj)} (I:Inv X pins σ H s) (h:∀ p∈pins',s.heap.get? p.1=some p.2 /\ H p.1=none /\ p.1≠X.env.locals /\ p.1∉X.fs /\ ∀ v,p.2.data≠.cell v):Inv X pins' σ H s:=
  ⟨I.ok,I.os,I.bare,I.base,I.loc,I.cell,I.free,I.freeC,fun p hp=>(List.mem_append.mp hp).elim (fun z=>I.pin p (List.mem_append_left _ z)) (h p),I.hok,I.len⟩
theorem zlf {N:List Str} (hN:N.Nodup) {i j:Nat}{x:Str} (a:N[i]?=some x) (b:N[j]?=some x):i=j:=by
  obtain ⟨h1,e1⟩:=List.getElem?_eq_some_iff.mp a
  obtain ⟨h2,e2⟩:=List.getElem?_eq_some_iff.mp b
  exact (List.getElem_inj hN).mp (e1.trans e2.symm)
theorem zn6 {M:Model}{A:Around}{E:Value->Shared->Prop}{i:Nat}{x:Str}{v:V}{u:Value}{Q:Unit->Shared->Prop} (I:Inv X pins σ H s) (hN:X.N.Nodup) (hi:X.N[i]?=some x) (hx:Loc X.env.scope x) (r:RelV v u)
    (h:∀ s',Inv X pins (σ.set i (some v)) H s'->(∃ a,Heap.SameBut a s.heap s'.heap /\ (a=X.env.locals \/ X.env.cells.lookup x=some a))->Q () s') (hf:X.fn x=true \/ X.env.scope.names.lookup x=some .local:=by first | exact .inl rfl | exact .inr rfl | assumption):wpAny M A (storeName X.env x u) Q E s:=by
  obtain ⟨m,hn,hl⟩:=id I.loc
  have hcls:(X.env.scope.kind==.class||(X.env.scope.kind==.module&&X.env.locals != X.env.globals))=false:=by rw [I.ok.kind];rfl
  have hiσ:i < σ.length:=by rw [I.len];exact (List.getElem?_eq_some_iff.mp hi).1
  have cne:=I.cne
  have tracked:∀ {a:Addr}{h':Heap},(∃ o,s.heap.get? a=some o /\ H a=none)->Heap.SameBut a s.heap h'->HOk X.prog X.w H h':=fun {a h'} ha hs b ob e=>by
    obtain ⟨_,_,hfree⟩:=ha
    refine (I.hok b ob e).stay (fun c w' hc q=>(hs.2 c ?_).trans q) (fun _ q=>q) fun _ _ q=>q
    rintro rfl
    rcases hc with rfl | hc
    · rw [hfree] at e;cases e
    · rw [hfree] at hc;cases hc
  rcases hx with hk | hk
  · refine wpAny_storeName_local hk hn (fun h' hn' hs=>?_) hcls
    obtain ⟨oL,_,_,hoL,_⟩:=id hn
    refine h _ ⟨I.ok,I.os,I.bare,⟨fun b o e n hb hx=>?_,fun b o e n hb hx=>?_,I.base.free,fun b o e hx=>?_,I.base.tups,I.base.frzs,I.base.tbls⟩,⟨_,hn',fun j y v' e1 e2 e3=>?_⟩,fun y c e=>?_,I.free,I.freeC,fun p hp=>?_,tracked ⟨oL,hoL,I.free⟩ hs,by simpa using I.len⟩ ⟨_,hs,.inl rfl⟩
    · exact (hs.2 b (Nat.ne_of_lt (Nat.lt_of_lt_of_le (Heap.lt_size e) I.ok.above))).trans (I.base.keep b o e n hb hx)
    · obtain ⟨sl,e1⟩:=I.base.slot b o e n hb hx
      exact ⟨sl,(hs.2 b (Nat.ne_of_lt (Nat.lt_of_lt_of_le (Heap.lt_size e) I.ok.above))).trans e1⟩
    · obtain ⟨o',e1⟩:=I.base.there b o e hx
      exact ⟨o',(hs.2 b (Nat.ne_of_lt (Nat.lt_of_lt_of_le (Heap.lt_size e) I.ok.above))).trans e1⟩
    · by_cases hj:j=i
      · subst hj
        rw [hi] at e1;cases e1
        rw [List.getElem?_set_self hiσ] at e2
        cases e2
        exact ⟨u,r,.inl ⟨hk,by simp⟩⟩
      · rw [List.getElem?_set_ne (Ne.symm hj)] at e2
        obtain ⟨u',r',q⟩:=hl j y v' e1 e2 e3
        refine ⟨u',r',?_⟩
        rcases q with ⟨k,e⟩ | ⟨k,c,e,z⟩
        · refine .inl ⟨k,?_⟩
          have:y≠x:=fun e=>hj (zlf hN e1 (e ▸ hi))
          simp [this,e]
        · exact .inr ⟨k,c,e,z.sameBut hs (cne y c e)⟩
    · obtain ⟨w',z⟩:=I.cell y c e
      exact ⟨w',z.sameBut hs (cne y c e)⟩
    · obtain ⟨e,n,ne,nf,d⟩:=I.pin p hp
      exact ⟨(hs.2 p.1 ne).trans e,n,ne,nf,d⟩
  · have hfn:X.fn x=true:=by
      rcases hf with z | z
      · exact z
      · rw [z] at hk;cases hk
    obtain ⟨c,hc⟩:=I.ok.has x (.inl hk)
    obtain ⟨w',z⟩:=I.cell x c hc
    refine wpAny_storeName_cell I.ok.kind hk hc z (fun h' hc' hs=>?_)
    obtain ⟨oc,hoc,hocd⟩:=id z
    refine h {s with heap:=h'} ⟨I.ok,I.os,I.bare,⟨fun b o e n hb hx=>?_,fun b o e n hb hx=>?_,I.base.free,fun b o e hx=>?_,I.base.tups,I.base.frzs,I.base.tbls⟩,⟨m,hn.sameBut hs (Ne.symm (cne x c hc)),fun j y v' e1 e2 e3=>?_⟩,fun y c' e=>?_,I.free,I.freeC,fun p hp=>?_,tracked ⟨oc,hoc,I.freeC x c hc⟩ hs,by simpa using I.len⟩ ⟨c,hs,.inr hc⟩
    · exact (hs.2 b (Nat.ne_of_lt (Nat.lt_of_lt_of_le (Heap.lt_size e) (I.ok.cab x c hfn hc)))).trans (I.base.keep b o e n hb hx)
    · obtain ⟨sl,e1⟩:=I.base.slot b o e n hb hx
      exact ⟨sl,(hs.2 b (Nat.ne_of_lt (Nat.lt_of_lt_of_le (Heap.lt_size e) (I.ok.cab x c hfn hc)))).trans e1⟩
    · obtain ⟨o',e1⟩:=I.base.there b o e hx
      exact ⟨o',(hs.2 b (Nat.ne_of_lt (Nat.lt_of_lt_of_le (Heap.lt_size e) (I.ok.cab x c hfn hc)))).trans e1⟩
    · by_cases hj:j=i
      · subst hj
        rw [hi] at e1;cases e1
        rw [List.getElem?_set_self hiσ] at e2
        cases e2
        exact ⟨u,r,.inr ⟨.inl hk,c,hc,hc'⟩⟩
      · rw [List.getElem?_set_ne (Ne.symm hj)] at e2
        obtain ⟨u',r',q⟩:=hl j y v' e1 e2 e3
        refine ⟨u',r',?_⟩
        rcases q with q | ⟨k,c',e,z'⟩
        · exact .inl q
        · refine .inr ⟨k,c',e,z'.sameBut hs ?_⟩
          rintro rfl
          exact hj (zlf hN e1 (I.ok.inj _ _ _ e hc ▸ hi))
    · by_cases hcc:c'=c
      · subst hcc;exact ⟨_,hc'⟩
      · obtain ⟨w2,z2⟩:=I.cell y c' e
        exact ⟨w2,z2.sameBut hs hcc⟩
    · obtain ⟨e,n,ne,nf,d⟩:=I.pin p hp
      refine ⟨(hs.2 p.1 ?_).trans e,n,ne,nf,d⟩
      intro q
      rw [q,hoc] at e
      have q':oc=p.2:=Option.some.inj e
      exact d w' (by rw [<- q'];exact hocd)
theorem zpv {M:Model}{A:Around}{E:Value->Shared->Prop}{i:Nat}{x:Str}{v:V}{u:Value}{Q:Unit->Shared->Prop} (I:Inv X pins σ H s) (hN:X.N.Nodup) (hi:X.N[i]?=some x) (hx:Loc X.env.scope x) (r:RelV v u)
    (h:∀ s',Inv X pins (σ.set i (some v)) H s'->Q () s') (hf:X.fn x=true \/ X.env.scope.names.lookup x=some .local:=by first | exact .inl rfl | exact .inr rfl | assumption):wpAny M A (storeName X.env x u) Q E s:=
  zn6 I hN hi hx r (fun s' I' _=>h s' I') hf
theorem Inv.call' {s':Shared}{ch:List Addr} (I:Inv X pins σ H s) (ho:s'.os=s.os) (u:Un (frs X.stack) ch H H' s.heap s'.heap) (hok:HOk X.prog X.w H' s'.heap) (hg:AllBare s'.gens)
    (hch:∀ b∈ch,(b∈X.ex \/ X.s₀.heap.objs.size≤b) /\ b≠X.env.locals /\ (∀ x c,X.env.cells.lookup x=some c->c≠b) /\ ∀ p∈X.pn++pins,p.1≠b):Inv X pins σ H' s':=by
  obtain ⟨h',g',d',t',o'⟩:=s'
  have e:o'=s.os:=ho
  subst e
  exact I.call (g':=g') (t':=t') (d':=d') u hok hg hch
end
abbrev XK:=Value->Option Addr->Hp->Prop
abbrev St:=List (Option V)
abbrev VK:=V->Hp->Prop
abbrev TE:=St->Hp->VK->Prop
abbrev TT:=St->Hp->(Bool->Hp->Prop)->Prop
abbrev TA:=St->Hp->(List V->Hp->Prop)->Prop
structure Ends where
  nx:St->Hp->Prop
  rt:VK
  bk:St->Hp->Prop:=fun _ _=>False
  ct:St->Hp->Prop:=fun _ _=>False
abbrev TS:=Ends->St->Hp->Prop
def EP (X:Cx) (pins:List (Addr×Obj)) (σ:St) (Q:VK) (u:Value) (s':Shared):Prop:=∃ v H',Inv X pins σ H' s' /\ RelV v u /\ Q v H'
def TP (X:Cx) (pins:List (Addr×Obj)) (σ:St) (Q:Bool->Hp->Prop) (b:Bool) (s':Shared):Prop:=∃ H',Inv X pins σ H' s' /\ Q b H'
def AP (X:Cx) (pins:List (Addr×Obj)) (σ:St) (Q:List V->Hp->Prop) (us:List Value) (s':Shared):Prop:=∃ vs H',Inv X pins σ H' s' /\ Vals vs us /\ Q vs H'
def SP (X:Cx) (pins:List (Addr×Obj)) (D:Ends) (f:Flow) (s':Shared):Prop:=
  match f with
  | .next=>∃ σ' H',Inv X pins σ' H' s' /\ D.nx σ' H'
  | .brk=>∃ σ' H',Inv X pins σ' H' s' /\ D.bk σ' H'
  | .cont=>∃ σ' H',Inv X pins σ' H' s' /\ D.ct σ' H'
  | .ret u=>∃ v σ' H',Inv X pins σ' H' s' /\ RelV v u /\ D.rt v H'
def PE (X:Cx) (e:Expr) (t:TE):Prop:=
  ∀ (pins:List (Addr×Obj)) (s:Shared) (σ:St) (H:Hp) (Q:VK),Inv X pins σ H s->t σ H Q->wpAny (model X.prog X.w) X.A (eval e X.env) (EP X pins σ Q) X.xe s
def PT (X:Cx) (e:Expr) (t:TT):Prop:=
  ∀ (pins:List (Addr×Obj)) (s:Shared) (σ:St) (H:Hp) (Q:Bool->Hp->Prop),Inv X pins σ H s->t σ H Q->wpAny (model X.prog X.w) X.A (isTrue e X.env (eval e X.env)) (TP X pins σ Q) X.xe s
def PW (X:Cx) (e:Expr) (t:TT):Prop:=
  ∀ (whole:Sem Value) (pins:List (Addr×Obj)) (s:Shared) (σ:St) (H:Hp) (Q:Bool->Hp->Prop),Inv X pins σ H s->t σ H Q->wpAny (model X.prog X.w) X.A (isTrue e X.env whole) (TP X pins σ Q) X.xe s
theorem PW.pt {X:Cx}{e:Expr}{t:TT} (h:PW X e t):PT X e t:=h _
def PA (X:Cx) (es:List Expr) (t:TA):Prop:=
  ∀ (pos:Pos) (pins:List (Addr×Obj)) (s:Shared) (σ:St) (H:Hp) (Q:List V->Hp->Prop),Inv X pins σ H s->t σ H Q->wpAny (model X.prog X.w) X.A (spliced (backTo pos (starEach es X.env))) (AP X pins σ Q) X.xe s
def PS (X:Cx) (st:Stmt) (t:TS):Prop:=
  ∀ (pins:List (Addr×Obj)) (s:Shared) (σ:St) (H:Hp) (D:Ends),Inv X pins σ H s->t D σ H->wpAny (model X.prog X.w) X.A (exec st X.env) (SP X pins D) X.xe s
def PSs (X:Cx) (st:List Stmt) (t:TS):Prop:=
  ∀ (pins:List (Addr×Obj)) (s:Shared) (σ:St) (H:Hp) (D:Ends),Inv X pins σ H s->t D σ H->wpAny (model X.prog X.w) X.A (execs st X.env) (SP X pins D) X.xe s
theorem thn {α:Type}{t:Sem α}{Q Q':α->Shared->Prop}{M:Model}{A:Around}{E:Value->Shared->Prop}{s:Shared} (h:wpAny M A t Q E s) (hQ:∀ a s,Q a s->Q' a s):wpAny M A t Q' E s:=wpAny_mono h hQ fun _ _ x=>x
end L2
namespace L2
open PySem PySem.Spec PyProof.Rows
section
variable {X:Cx}
theorem bin {a b:Expr}{ta tb:TE} (ha:PE X a ta) (hb:PE X b tb) {pins:List (Addr×Obj)}{s:Shared}{σ:St}{H:Hp}{R:V->V->Hp->Prop} (I:Inv X pins σ H s) (h:ta σ H fun x H1=>tb σ H1 fun y H2=>R x y H2)
    {α:Type}{Q:α->Shared->Prop}{f:Value->Value->Sem α}
    (hf:∀ v u s2 x y H2,Inv X pins σ H2 s2->RelV x v->RelV y u->R x y H2->wpAny (model X.prog X.w) X.A (f v u) Q X.xe s2) :
    wpAny (model X.prog X.w) X.A (eval a X.env) (fun v s₁=>wpAny (model X.prog X.w) X.A (eval b X.env) (fun u s₂=>wpAny (model X.prog X.w) X.A (f v u) Q X.xe s₂) X.xe s₁) X.xe s:=by
  refine thn (ha pins s σ H _ I h) fun v s1 ⟨x,H1,I1,r1,q1⟩=>?_
  refine thn (hb pins s1 σ H1 _ I1 q1) fun u s2 ⟨y,H2,I2,r2,q2⟩=>?_
  exact hf v u s2 x y H2 I2 r1 r2 q2
def tVar (i:Nat):TE:=fun σ H Q=>∃ v,σ[i]?=some (some v) /\ Q v H
def tC (v:V):TE:=fun _ H Q=>Q v H
theorem zqg {i:Nat}{x:Str}{pos:Pos} (hN:X.N[i]?=some x) (hv:Vis X.env.scope x) (hd:(x==("__debug__":Str))=false:=by decide) (hcd:(x==("__classdict__":Str))=false:=by decide):PE X (.Name x pos) (tVar i):=by
  intro pins s σ H Q I h
  obtain ⟨v,e,h⟩:=h
  obtain ⟨m,hn,hl⟩:=I.loc
  obtain ⟨u,r,l⟩:=hl i x v hN e hv
  have fin:EP X pins σ Q u s:=⟨v,H,I,r,h⟩
  rcases l with ⟨hk,hm⟩ | ⟨hk,c,hc,hcell⟩
  · exact wpAny_Name (wpAny_loadName_local I.ok.kind hk hn hm fin) hd
  · rcases hk with hk | hk
    · exact wpAny_Name (wpAny_loadName_cell I.ok.kind hk hc hcell fin) hd
    · exact wpAny_Name (wpAny_loadName_free I.ok.kind hk hc hcell fin hcd) hd
theorem zvj {i j pos}:PE X (.Constant (.int i) j pos) (tC (.int i)):=fun _ _ _ H _ I h=>wpAny_Constant_int ⟨.int i,H,I.tok _,⟨_,rfl⟩,h⟩
theorem ztd {b j pos}:PE X (.Constant (.bool b) j pos) (tC (.bl b)):=fun _ _ _ H _ I h=>Constant_bool ⟨.bl b,H,I,rfl,h⟩
theorem pe_non {j pos}:PE X (.Constant .none j pos) (tC .non):=fun _ _ _ H _ I h=>Constant_none ⟨.non,H,I,rfl,h⟩
theorem pe_str {x j pos}:PE X (.Constant (.str x) j pos) (tC (.str x)):=fun _ _ _ H _ I h=>Calls.Constant_str ⟨.str x,H,I.tok _,⟨_,rfl⟩,h⟩
def Gl (X:Cx) (x:Str):Prop:=X.env.kindOf x=some .globalImplicit
theorem zja {E:Value->Shared->Prop}{pins:List (Addr×Obj)}{s:Shared}{σ:St}{H:Hp}{x:Str}{u:Value}{pos:Pos}{Q:Value->Shared->Prop} (I:Inv X pins σ H s) (hg:Gl X x) (hm:X.mg x=some u) (h:Q u s)
    (hd:(x==("__debug__":Str))=false:=by decide):wpAny (model X.prog X.w) X.A (eval (.Name x pos) X.env) Q E s:=
  Calls.Name_function_global I.ok.kind hg (Calls.loadGlobal_global (by rw [I.ok.glob];exact I.mod.glob.keeps I.bk) hm h) hd
theorem zhg {E:Value->Shared->Prop}{pins:List (Addr×Obj)}{s:Shared}{σ:St}{H:Hp}{x:Str}{u:Value}{pos:Pos}{Q:Value->Shared->Prop} (I:Inv X pins σ H s) (hg:Gl X x) (hm:X.mg x=none) (hv:bootBuiltins x=some u) (h:Q u s)
    (hn:x≠"__name__":=by decide) (hd:(x==("__debug__":Str))=false:=by decide):wpAny (model X.prog X.w) X.A (eval (.Name x pos) X.env) Q E s:=by
  obtain ⟨mb,h1,h2⟩:=I.mod.blt
  exact Calls.Name_function_global I.ok.kind hg (Calls.loadGlobal_builtin (by rw [I.ok.glob];exact I.mod.glob.keeps I.bk) hm (by rw [I.ok.blt];exact h1.keeps I.bk) ((h2 x hn).trans hv) h) hd
theorem zi7 {x:Str}{v:V}{u:Value}{pos:Pos} (hg:Gl X x) (hm:X.mg x=some u) (r:RelV v u) (hd:(x==("__debug__":Str))=false:=by decide):PE X (.Name x pos) (tC v):=
  fun _ _ _ H _ I h=>zja I hg hm ⟨v,H,I,r,h⟩ hd
theorem zsk {x:Str}{v:V}{u:Value}{pos:Pos} (hg:Gl X x) (hm:X.mg x=none) (hv:bootBuiltins x=some u) (r:RelV v u) (hn:x≠"__name__":=by decide) (hd:(x==("__debug__":Str))=false:=by decide):PE X (.Name x pos) (tC v):=
  fun _ _ _ H _ I h=>zhg I hg hm hv ⟨v,H,I,r,h⟩ hn hd
variable {a b:Expr}{ta tb:TE}{pos:Pos}
variable {tA tB':TT}{rest:List Expr}
def zg3 (t u:TT):TT:=fun σ H Q=>t σ H fun c H1=>if c=true then u σ H1 Q else Q false H1
def tOr (t u:TT):TT:=fun σ H Q=>t σ H fun c H1=>if c=true then Q true H1 else u σ H1 Q
def zb4 (t:TT):TT:=fun σ H Q=>t σ H fun c H1=>Q (!c) H1
theorem z01 (ha:PT X a tA):PW X (.BoolOp .And [a] pos) tA:=by
  intro wh pins s σ H Q I h
  refine isTrue_and (thn (ha pins s σ H Q I h) fun c s1 e=>?_)
  cases c with
  | true=>exact isTrue_and_nil e
  | false=>exact e
theorem pw_or1 (ha:PT X a tA):PW X (.BoolOp .Or [a] pos) tA:=by
  intro wh pins s σ H Q I h
  refine isTrue_or (thn (ha pins s σ H Q I h) fun c s1 e=>?_)
  cases c with
  | false=>exact isTrue_or_nil e
  | true=>exact e
theorem pw_and (ha:PT X a tA) (hb:PW X (.BoolOp .And (b::rest) pos) tB'):PW X (.BoolOp .And (a::b::rest) pos) (zg3 tA tB'):=by
  intro wh pins s σ H Q I h
  refine isTrue_and (thn (ha pins s σ H _ I h) fun c s1 ⟨H1,I1,q1⟩=>?_)
  cases c with
  | true=>exact hb wh pins s1 σ H1 Q I1 q1
  | false=>exact ⟨H1,I1,q1⟩
theorem pw_or (ha:PT X a tA) (hb:PW X (.BoolOp .Or (b::rest) pos) tB'):PW X (.BoolOp .Or (a::b::rest) pos) (tOr tA tB'):=by
  intro wh pins s σ H Q I h
  refine isTrue_or (thn (ha pins s σ H _ I h) fun c s1 ⟨H1,I1,q1⟩=>?_)
  cases c with
  | true=>exact ⟨H1,I1,q1⟩
  | false=>exact hb wh pins s1 σ H1 Q I1 q1
theorem pt_not (ha:PT X a tA):PT X (.UnaryOp .Not a pos) (zb4 tA):=by
  intro pins s σ H Q I h
  exact isTrue_not (ha pins s σ H (fun c H1=>Q (!c) H1) I h)
def tAndV (ta tb:TE):TE:=fun σ H Q=>ta σ H fun x H1=>∃ c,x=.bl c /\ if c=true then tb σ H1 Q else Q (.bl false) H1
def tNotV (ta:TE):TE:=fun σ H Q=>ta σ H fun x H1=>∃ c,x=.bl c /\ Q (.bl (!c)) H1
theorem pe_one {op}{t:TE} (h:PE X a t):PE X (.BoolOp op [a] pos) t:=fun pins s σ H Q I hw=>BoolOp_one (h pins s σ H Q I hw)
theorem pe_and (ha:PE X a ta) (hb:PE X (.BoolOp .And (b::rest) pos) tb):PE X (.BoolOp .And (a::b::rest) pos) (tAndV ta tb):=by
  intro pins s σ H Q I h
  refine BoolOp_and (thn (ha pins s σ H _ I h) fun v s1 ⟨x,H1,I1,r1,q1⟩=>?_)
  obtain ⟨c,rfl,q1⟩:=q1
  cases r1
  refine wpAny_truthy_bool ?_
  cases c with
  | true=>exact hb pins s1 σ H1 Q I1 q1
  | false=>exact ⟨.bl false,H1,I1,rfl,q1⟩
theorem pe_not (ha:PE X a ta):PE X (.UnaryOp .Not a pos) (tNotV ta):=by
  intro pins s σ H Q I h
  refine UnaryOp_ (thn (ha pins s σ H _ I h) fun v s1 ⟨x,H1,I1,r1,q1⟩=>?_)
  obtain ⟨c,rfl,q1⟩:=q1
  cases r1
  exact not_of (wpAny_truthy_bool ⟨.bl (!c),H1,I1,rfl,q1⟩)
def tIf (t:TT) (ta tb:TE):TE:=fun σ H Q=>t σ H fun c H1=>if c=true then ta σ H1 Q else tb σ H1 Q
theorem zx6 {c:Expr} (hc:PT X c tA) (ha:PE X a ta) (hb:PE X b tb):PE X (.IfExp c a b pos) (tIf tA ta tb):=by
  intro pins s σ H Q I h
  refine wpAny_IfExp (thn (hc pins s σ H _ I h) fun d s1 ⟨H1,I1,q1⟩=>?_)
  cases d with
  | true=>exact ha pins s1 σ H1 Q I1 q1
  | false=>exact hb pins s1 σ H1 Q I1 q1
end
end L2
namespace L2
open PySem PySem.Spec PyProof.Rows
def SqL (K:PySem.W.Frag) (H:Hp) (a:Addr) (xs:List V):Prop:=
  Rd H a (.lst xs) \/
    ∃ (o:Obj) (its:Array Value) (n:Nat),K.lookup a=some o /\ o.cls=.type "list" /\ o.dict=none /\ o.data=.seq its n /\ its.size≤sizeLine /\ Vals xs its.toList
def SqT (K:PySem.W.Frag) (H:Hp) (a:Addr) (xs:List V):Prop:=
  Rd H a (.tup xs) \/
    ∃ (o:Obj) (its:Array Value) (n:Nat),K.lookup a=some o /\ o.cls=.type "tuple" /\ o.data=.seq its n /\ its.size≤sizeLine /\ Vals xs its.toList
def absV:Value->Option V
  | .none=>some .non
  | .bool b=>some (.bl b)
  | .int i _=>some (.int i)
  | .str x _=>some (.str x)
  | .bytes b _=>some (.byt b)
  | .float b _=>some (.flt b)
  | .ref a=>some (.ref a)
  | .type n=>some (.ty n)
  | _=>none
theorem RelV.abs {x:V}{u:Value} (r:RelV x u):absV u=some x:=by
  cases x with
  | non=>cases r;rfl
  | bl _=>cases r;rfl
  | int _=>obtain ⟨t,rfl⟩:=r;rfl
  | str _=>obtain ⟨t,rfl⟩:=r;rfl
  | byt _=>obtain ⟨t,rfl⟩:=r;rfl
  | flt _=>obtain ⟨t,rfl⟩:=r;rfl
  | ref _=>cases r;rfl
  | ty _=>cases r;rfl
theorem RelV.inj {x y:V}{u:Value} (r:RelV x u) (q:RelV y u):x=y:=Option.some.inj (r.abs.symm.trans q.abs)
theorem Vals.inj:∀ {xs ys:List V}{us:List Value},Vals xs us->Vals ys us->xs=ys
  | _,_,_,.nil,.nil=>rfl
  | _,_,_,.cons r t,.cons r' t'=>by rw [r.inj r',Vals.inj t t']
section
variable {X:Cx}{pins:List (Addr×Obj)}{σ:St}{H:Hp}{s:Shared}{a:Addr}{xs ys:List V}
theorem SqL.of {K:PySem.W.Frag} (h:H a=some (.lst xs)):SqL K H a xs:=.inl (.inl h)
theorem SqT.of {K:PySem.W.Frag} (h:H a=some (.tup xs)):SqT K H a xs:=.inl (.inl h)
theorem Inv.list (I:Inv X pins σ H s) (h:SqL X.K H a xs):∃ its:List Value,Vals xs its /\ PlainL s.heap a its.toArray /\ xs.length≤sizeLine:=by
  rcases h with h | ⟨o,its,n,hk,hc,hd,hs,hz,r⟩
  · obtain ⟨z,its,n,r,e⟩:=h.ok I.hok
    exact ⟨its,r,⟨_,n,e,rfl,rfl,rfl⟩,z⟩
  · refine ⟨its.toList,r,⟨o,n,I.kIn a o hk,hc,hd,by simpa using hs⟩,?_⟩
    have e:=r.length
    simp only [Array.length_toList] at e
    omega
theorem Inv.tuple (I:Inv X pins σ H s) (h:SqT X.K H a xs):∃ its:List Value,Vals xs its /\ IsTup s.heap a its.toArray /\ xs.length≤sizeLine:=by
  rcases h with h | ⟨o,its,n,hk,hc,hs,hz,r⟩
  · obtain ⟨z,its,r,p⟩:=h.ok I.hok
    exact ⟨its,r,p,z⟩
  · refine ⟨its.toList,r,⟨o,I.kIn a o hk,hc,n,by simpa using hs⟩,?_⟩
    have e:=r.length
    simp only [Array.length_toList] at e
    omega
theorem Inv.list_inj (I:Inv X pins σ H s) (h:SqL X.K H a xs) (h':SqL X.K H a ys):xs=ys:=by
  obtain ⟨its,r,⟨o,n,e,_,_,d⟩,_⟩:=I.list h
  obtain ⟨its',r',⟨o',n',e',_,_,d'⟩,_⟩:=I.list h'
  rw [e] at e';cases e'
  rw [d] at d'
  injection d' with d1 _
  have:its=its':=by simpa using congrArg Array.toList d1
  subst this
  exact r.inj r'
theorem Inv.tuple_inj (I:Inv X pins σ H s) (h:SqT X.K H a xs) (h':SqT X.K H a ys):xs=ys:=by
  obtain ⟨its,r,⟨o,e,_,n,d⟩,_⟩:=I.tuple h
  obtain ⟨its',r',⟨o',e',_,n',d'⟩,_⟩:=I.tuple h'
  rw [e] at e';cases e'
  rw [d] at d'
  injection d' with d1 _
  have:its=its':=by simpa using congrArg Array.toList d1
  subst this
  exact r.inj r'
end
abbrev Cx.wish (X:Cx) (E:Value->Shared->Prop):Cx:={X with xe:=E}
abbrev Cx.nox (X:Cx):Cx:=X.wish fun _ _=>False
theorem Cx.Ok.wish {X:Cx} (ok:X.Ok) (E:Value->Shared->Prop):(X.wish E).Ok:=
  ⟨ok.mod,ok.kind,ok.glob,ok.blt,ok.above,ok.inj,ok.has,ok.cab,ok.hd,ok.frames,ok.stk,ok.exf,ok.bs,ok.bsz,ok.noex,ok.exfs,ok.funs,ok.frf⟩
theorem Cx.Ok.unwish {X:Cx}{E:Value->Shared->Prop} (ok:(X.wish E).Ok):X.Ok:=
  ⟨ok.mod,ok.kind,ok.glob,ok.blt,ok.above,ok.inj,ok.has,ok.cab,ok.hd,ok.frames,ok.stk,ok.exf,ok.bs,ok.bsz,ok.noex,ok.exfs,ok.funs,ok.frf⟩
section
variable {X:Cx}{pins:List (Addr×Obj)}{σ:St}{H:Hp}{s:Shared}{E:Value->Shared->Prop}
theorem Inv.wish (I:Inv X pins σ H s) (E:Value->Shared->Prop):Inv (X.wish E) pins σ H s:=⟨I.ok.wish E,I.os,I.bare,I.base,I.loc,I.cell,I.free,I.freeC,I.pin,I.hok,I.len⟩
theorem Inv.unwish (I:Inv (X.wish E) pins σ H s):Inv X pins σ H s:=⟨I.ok.unwish,I.os,I.bare,I.base,I.loc,I.cell,I.free,I.freeC,I.pin,I.hok,I.len⟩
theorem SP.unwish {D:Ends}{f:Flow}{s':Shared} (h:SP (X.wish E) pins D f s'):SP X pins D f s':=by
  cases f with
  | next=>obtain ⟨σ',H',I,q⟩:=h;exact ⟨σ',H',I.unwish,q⟩
  | brk=>obtain ⟨σ',H',I,q⟩:=h;exact ⟨σ',H',I.unwish,q⟩
  | cont=>obtain ⟨σ',H',I,q⟩:=h;exact ⟨σ',H',I.unwish,q⟩
  | ret u=>obtain ⟨v,σ',H',I,r,q⟩:=h;exact ⟨v,σ',H',I.unwish,r,q⟩
theorem PE.nox {e:Expr}{t:TE} (h:PE X.nox e t):PE X e t:=fun pins s σ H Q I hw=>
  wpAny_mono (h pins s σ H Q (I.wish _) hw) (fun _ _ ⟨v,H',I',r,q⟩=>⟨v,H',I'.unwish,r,q⟩) fun _ _ z=>False.elim z
theorem PT.nox {e:Expr}{t:TT} (h:PT X.nox e t):PT X e t:=fun pins s σ H Q I hw=>
  wpAny_mono (h pins s σ H Q (I.wish _) hw) (fun _ _ ⟨H',I',q⟩=>⟨H',I'.unwish,q⟩) fun _ _ z=>False.elim z
theorem PSs.nox {st:List Stmt}{t:TS} (h:PSs X.nox st t):PSs X st t:=fun pins s σ H D I hw=>
  wpAny_mono (h pins s σ H D (I.wish _) hw) (fun _ _ q=>q.unwish) fun _ _ z=>False.elim z
end
section
variable {X:Cx}{st:Stmt}{rest:List Stmt}{t u:TS}{e:Expr}{te:TE}{pos:Pos}
def tNext:TS:=fun D σ H=>D.nx σ H
def tSeq (t u:TS):TS:=fun D σ H=>t {D with nx:=u D} σ H
theorem z04:PSs X [] tNext:=fun _ _ σ H _ I h=>wpAny_execs_nil ⟨σ,H,I,h⟩
theorem zx3 (h1:PS X st t) (h2:PSs X rest u):PSs X (st::rest) (tSeq t u):=by
  intro pins s σ H D I h
  refine wpAny_execs_cons (thn (h1 pins s σ H {D with nx:=u D} I h) fun f s1 q=>?_)
  cases f with
  | next =>
    obtain ⟨σ',H',I',q⟩:=q
    exact h2 pins s1 σ' H' D I' q
  | ret v=>exact q
  | brk=>exact q
  | cont=>exact q
theorem z05:PS X (.Pass pos) tNext:=fun _ _ σ H _ I h=>wpAny_Pass ⟨σ,H,I,h⟩
theorem Inv.quiet {pins:List (Addr×Obj)}{σ:St}{H:Hp}{s:Shared} (I:Inv X pins σ H s):interactive X.env=false:=by simp [interactive,I.ok.kind]
def tDrop (te:TE):TS:=fun D σ H=>te σ H fun _ H1=>D.nx σ H1
theorem zsh (he:PE X e te) (hs:swapsWith e none pos.line X.env=pure false:=by rfl):PS X (.Expr e pos) (tDrop te):=by
  intro pins s σ H D I h
  exact wpAny_Expr_any (thn (he pins s σ H _ I h) fun v s1 ⟨x,H1,I1,r1,q1⟩=>⟨σ,H1,I1,q1⟩) I.quiet hs
def tRet (te:TE):TS:=fun D σ H=>te σ H D.rt
theorem ps_ret (he:PE X e te):PS X (.Return (some e) pos) (tRet te):=by
  intro pins s σ H D I h
  exact wpAny_Return_some (thn (he pins s σ H _ I h) fun v s1 ⟨x,H1,I1,r1,q1⟩=>⟨x,σ,H1,I1,r1,q1⟩)
def tIfS (c:TT) (t u:TS):TS:=fun D σ H=>c σ H fun b H1=>if b=true then t D σ H1 else u D σ H1
theorem ps_if {c:Expr}{a b:List Stmt}{tc:TT} (hc:PT X c tc) (ha:PSs X a t) (hb:PSs X b u):PS X (.If c a b pos) (tIfS tc t u):=by
  intro pins s σ H D I h
  refine wpAny_If (thn (hc pins s σ H _ I h) fun d s1 ⟨H1,I1,q1⟩=>?_)
  cases d with
  | true=>exact ha pins s1 σ H1 D I1 q1
  | false=>exact hb pins s1 σ H1 D I1 q1
end
abbrev TG:=V->St->Hp->(St->Hp->Prop)->Prop
abbrev TGs:=List V->St->Hp->(St->Hp->Prop)->Prop
def PG (X:Cx) (target:Expr) (t:TG):Prop:=
  ∀ (pins : List (Addr × Obj)) (s : Shared) (σ : St) (H : Hp) (v : V) (u : Value) (Q : St -> Hp -> Prop), Inv X pins σ H s -> RelV v u -> t v σ H Q ->
    wpAny (model X.prog X.w) X.A (assign target X.env u) (fun _ s'=>∃ σ' H',Inv X pins σ' H' s' /\ Q σ' H') X.xe s
def PGs (X:Cx) (ts:List Expr) (t:TGs):Prop:=
  ∀ (pins : List (Addr × Obj)) (s : Shared) (σ : St) (H : Hp) (vs : List V) (us : List Value) (Q : St -> Hp -> Prop), Inv X pins σ H s -> Vals vs us -> t vs σ H Q ->
    wpAny (model X.prog X.w) X.A (assignInOrder ((assignEach ts X.env).map (·.2)) us) (fun _ s'=>∃ σ' H',Inv X pins σ' H' s' /\ Q σ' H') X.xe s
abbrev TSet:=V->V->V->Hp->(Hp->Prop)->Prop
def PSet (X:Cx) (t:TSet):Prop:=
  ∀ (pins : List (Addr × Obj)) (s : Shared) (σ : St) (H : Hp) (o i v : V) (ov iv u : Value) (Q : Hp -> Prop), Inv X pins σ H s -> RelV o ov -> RelV i iv -> RelV v u -> t o i v H Q ->
    wpAny (model X.prog X.w) X.A (setItem ov iv u) (fun _ s'=>∃ H',Inv X pins σ H' s' /\ Q H') X.xe s
section
variable {X:Cx}{pos:Pos}
def gName (i:Nat):TG:=fun v σ H Q=>Q (σ.set i (some v)) H
theorem zsj {i:Nat}{x:Str} (hN:X.N.Nodup) (hi:X.N[i]?=some x) (hx:Loc X.env.scope x) (hf:X.fn x=true \/ X.env.scope.names.lookup x=some .local:=by first | exact .inl rfl | exact .inr rfl | assumption):PG X (.Name x pos) (gName i):=by
  intro pins s σ H v u Q I r h
  exact wpAny_assign_Name (zpv I hN hi hx r (fun s' I'=>⟨_,H,I',h⟩) hf)
def zah:TGs:=fun vs σ H Q=>vs=[] /\ Q σ H
def zaa (t:TG) (u:TGs):TGs:=fun vs σ H Q=>∃ v r,vs=v::r /\ t v σ H fun σ' H'=>u r σ' H' Q
theorem z1a:PGs X [] zah:=by
  intro pins s σ H vs us Q I r h
  obtain ⟨e,h⟩:=h
  subst e
  cases r
  exact assignInOrder_nil ⟨σ,H,I,h⟩
theorem zx5 {e:Expr}{es:List Expr}{t:TG}{u:TGs} (h1:PG X e t) (h2:PGs X es u)
    (hs:(assignEach (e::es) X.env).map (·.2)=assign e X.env::(assignEach es X.env).map (·.2):=by rfl):PGs X (e::es) (zaa t u):=by
  intro pins s σ H vs us Q I r h
  obtain ⟨v,vr,e1,h⟩:=h
  subst e1
  cases r with
  | cons r rr =>
    rw [hs]
    refine assignInOrder_cons (thn (h1 pins s σ H _ _ _ I r h) fun _ s1 ⟨σ1,H1,I1,q1⟩=>?_)
    exact h2 pins s1 σ1 H1 _ _ Q I1 rr q1
def zbb (K:PySem.W.Frag) (n:Nat) (t:TGs):TG:=fun v σ H Q=>∃ a xs,v=.ref a /\ SqT K H a xs /\ xs.length=n /\ t xs σ H Q
theorem pg_tup {es:List Expr}{k:Nat}{t:TGs}{n:Nat} (hc:X.calm=true) (h:PGs X es t)
    (hn:(assignEach es X.env).length=n:=by rfl) (hst:(assignEach es X.env).findIdx? (·.1)=none:=by rfl):PG X (.Tuple es k pos) (zbb X.K n t):=by
  intro pins s σ H v u Q I r hw
  obtain ⟨a,xs,e1,hq,hl,hw⟩:=hw
  subst e1
  cases r
  obtain ⟨its,rv,ht,hz⟩:=I.tuple hq
  refine assign_Tuple_tuple (I.ok.hd hc) ht (by simp [hn,<- hl,rv.length]) hst fun h' hx=>?_
  have I1:Inv X pins σ H {s with heap:=h'}:=I.kept (t':=s.toks) fun b o e=>hx b o (Nat.ne_of_lt (Heap.lt_size e)) e
  exact h pins _ σ H xs _ Q I1 (by simpa using rv) hw
def gSub (to ti:TE) (t:TSet):TG:=fun v σ H Q=>to σ H fun o H1=>ti σ H1 fun i H2=>t o i v H2 fun H3=>Q σ H3
theorem pg_sub {o i:Expr}{to ti:TE}{t:TSet} (ho:PE X o to) (hi:PE X i ti) (hs:PSet X t)
    (ha:∀ v,assign (.Subscript o i pos) X.env v=(do
      let ov <- holding [v] (eval o X.env)
      let iv <- holding [v,ov] (eval i X.env)
      standAt pos
      holding [v,ov,iv] (setItem ov iv v)
      release [v,ov,iv] []):=by intro _;rfl):PG X (.Subscript o i pos) (gSub to ti t):=by
  intro pins s σ H v u Q I r h
  rw [ha]
  refine wpAny_bind (wpAny_holding (thn (ho pins s σ H _ I h) fun ov s1 ⟨x,H1,I1,r1,q1⟩=>?_))
  refine wpAny_bind (wpAny_holding (thn (hi pins s1 σ H1 _ I1 q1) fun iv s2 ⟨y,H2,I2,r2,q2⟩=>?_))
  refine wpAny_bind (wpAny_standAt (wpAny_bind (wpAny_holding (thn (hs pins s2 σ H2 x y v ov iv u _ I2 r1 r2 r q2) fun _ s3 ⟨H3,I3,q3⟩=>?_))))
  exact wpAny_release ⟨σ,H3,I3,q3⟩
def tAsg (te:TE) (g:TG):TS:=fun D σ H=>te σ H fun x H1=>g x σ H1 D.nx
theorem zqe {tg e:Expr}{te:TE}{g:TG} (he:PE X e te) (hg:PG X tg g) (hs:swapsWithSole [tg] e pos.line X.env=pure false:=by rfl) (hw:swappedStores [tg] e X.env=pure none:=by rfl)
    (h1:(assignEach [tg] X.env).map (·.2)=[assign tg X.env]:=by rfl):PS X (.Assign [tg] e pos) (tAsg te g):=by
  intro pins s σ H D I h
  refine wpAny_Assign_stores (thn (he pins s σ H _ I h) fun v s1 ⟨x,H1,I1,r1,q1⟩=>?_) hs hw
  rw [h1]
  exact thn (hg pins s1 σ H1 x v _ I1 r1 q1) fun _ s2 q=>q
end
section
variable {X:Cx}{pos:Pos}
end
structure It where
  go:Nat->Hp->Prop
  yld:Nat->Hp->V->Hp->Prop
  stop:Nat->Hp->Prop
def zf9 (X:Cx) (pins:List (Addr×Obj)) (H:Hp) (b:Addr):Prop:=
  H b=none /\ b≠X.env.locals /\ b∉X.fs /\ (b∈X.ex \/ X.s₀.heap.objs.size≤b) /\ (∀ x c,X.env.cells.lookup x=some c->c≠b) /\ ∀ p∈X.pn++pins,p.1≠b
theorem Inv.fpOk {X:Cx}{pins:List (Addr×Obj)}{σ:St}{H H':Hp}{s:Shared}{b:Addr} (I:Inv X pins σ H s) (hb:s.heap.objs.size≤b) (hn:H' b=none):zf9 X pins H' b:=by
  refine ⟨hn,Nat.ne_of_gt (Nat.lt_of_lt_of_le I.lt hb),I.nofs hb,.inr (Nat.le_trans I.sz hb),fun x c e z=>?_,fun p hp z=>?_⟩
  · obtain ⟨v,q⟩:=I.cell x c e
    exact absurd (Nat.lt_of_lt_of_le q.lt (by rw [z];exact hb)) (Nat.lt_irrefl _)
  · exact absurd (Nat.lt_of_lt_of_le (Heap.lt_size (I.pin p hp).1) (by rw [z];exact hb)) (Nat.lt_irrefl _)
structure Turn (P:Program) (w:World) (K:PySem.W.Frag) (tg:Expr) (J:It) (fp:List Addr) (it:Addr) (tn:Nat->Heap->Prop):Prop where
  mem:it∈fp
  obj:∀ i h,tn i h->∀ b∈fp,∃ o,h.get? b=some o /\ ∀ v,o.data≠.cell v
  keep:∀ i h h',tn i h->(∀ b∈fp,∀ o,h.get? b=some o->h'.get? b=some o)->tn i h'
  item:∀ (X:Cx),X.prog=P->X.w=w->X.K=K->X.calm=true->∀ (i:Nat) (pins:List (Addr×Obj)) (s:Shared) (σ:St) (H:Hp) (E:Value->Shared->Prop),Inv X pins σ H s->(∀ b∈fp,zf9 X pins H b)->tn i s.heap->J.go i H->
    wpAny (model P w) X.A (pyNext (.ref it)) (fun r s1=>∃ u,r=some u /\
      wpAny (model P w) X.A (letOwnedTupleGo tg (.ref it) u) (fun _ s2=>∃ x H',Inv X pins σ H' s2 /\ RelV x u /\ J.yld i H x H' /\ tn (i+1) s2.heap /\ ∀ b∈fp,H' b=none) E s1) E s
  done:∀ (X:Cx),X.prog=P->X.w=w->X.K=K->X.calm=true->∀ (i:Nat) (pins:List (Addr×Obj)) (s:Shared) (σ:St) (H:Hp) (E:Value->Shared->Prop),Inv X pins σ H s->(∀ b∈fp,zf9 X pins H b)->tn i s.heap->J.stop i H->
    wpAny (model P w) X.A (pyNext (.ref it)) (fun r s1=>r=none /\ Inv X pins σ H s1) E s
  self:∀ (A:Around) (i:Nat) (s:Shared) (Q:Value->Shared->Prop) (E:Value->Shared->Prop),tn i s.heap->Q (.ref it) s->wpAny (model P w) A (pyIter (.ref it)) Q E s
abbrev TI:=St->Hp->(It->Hp->Prop)->Prop
def PIE (X:Cx) (pins:List (Addr×Obj)) (σ:St) (tg:Expr) (R:It->Hp->Prop) (itv:Value) (s2:Shared):Prop:=
  ∃ (it:Addr) (fp:List Addr) (tn:Nat->Heap->Prop) (J:It) (H':Hp),itv=.ref it /\ Inv X pins σ H' s2 /\ Turn X.prog X.w X.K tg J fp it tn /\ tn 0 s2.heap /\ (∀ b∈fp,zf9 X pins H' b) /\ R J H'
def PI (X:Cx) (tg iter:Expr) (wi:TI):Prop:=
  ∀ (pins : List (Addr × Obj)) (s : Shared) (σ : St) (H : Hp) (R : It -> Hp -> Prop), Inv X pins σ H s -> wi σ H R ->
    wpAny (model X.prog X.w) X.A (eval iter X.env) (fun v s1=>wpAny (model X.prog X.w) X.A (pyIter v) (PIE X pins σ tg R) X.xe s1) X.xe s
theorem zpg {M:Model}{A:Around}{E:Value->Shared->Prop}{s:Shared}{tg:Expr}{it:Addr}{u:Value}{o:Obj}{n:String}{vs:Array Value}{Q:Unit->Shared->Prop} (ho:s.heap.get? it=some o) (hc:o.cls=.type n) (hd:o.data=.fields vs)
    (hn:["enumerate","zip","dict_itemiterator","dict_reverseitemiterator","odict_iterator","itertools.zip_longest","itertools.pairwise"].contains n=false) (hQ:Q () s):wpAny M A (letOwnedTupleGo tg (.ref it) u) Q E s:=by
  unfold letOwnedTupleGo
  cases tg<;>first
    | exact wpAny_pure hQ
    | (cases u<;>first
        | exact wpAny_pure hQ
        | (refine wpAny_bind (wpAny_load ho ?_)
           rw [hc,hd]
           show wpAny M A (if (["enumerate","zip","dict_itemiterator","dict_reverseitemiterator","odict_iterator","itertools.zip_longest","itertools.pairwise"].contains n&&vs[0]?==some (rawInt _))=true then _ else _) Q E s
           rw [if_neg (by intro h;rw [hn,Bool.false_and] at h;cases h)]
           exact wpAny_pure hQ))
def Itl (K:PySem.W.Frag) (a:Addr):It:=
  ⟨fun i H=>∃ xs x,SqL K H a xs /\ xs[i]?=some x,fun i H x H'=>H'=H /\ ∀ xs,SqL K H a xs->xs[i]?=some x,fun i H=>∃ xs,SqL K H a xs /\ xs.length≤i⟩
def Itt (K:PySem.W.Frag) (a:Addr):It:=
  ⟨fun i H=>∃ xs x,SqT K H a xs /\ xs[i]?=some x,fun i H x H'=>H'=H /\ ∀ xs,SqT K H a xs->xs[i]?=some x,fun i H=>∃ xs,SqT K H a xs /\ xs.length≤i⟩
def Itr (lo:Int) (n:Nat):It:=⟨fun i _=>i < n,fun i H x H'=>H'=H /\ x=.int (lo+i),fun i _=>n≤i⟩
theorem zuu {P:Program}{w:World}{K:PySem.W.Frag}{tg:Expr} (a it:Addr):Turn P w K tg (Itl K a) [it] it (fun i h=>h.IsListIter it a i) where
  mem:=by simp
  obj:=fun i h st b hb=>by
    have e:b=it:=by simpa using hb
    subst e
    obtain ⟨o,e,c,d⟩:=st
    exact ⟨o,e,fun v z=>by rw [d] at z;cases z⟩
  keep:=fun i h h' st k=>st.at fun o e=>k it (by simp) o e
  item:=by
    intro X hP hw hK hc i pins s σ H E I hf st hg
    subst hP hw hK
    obtain ⟨xs,x,hq,hx⟩:=hg
    obtain ⟨its,rv,p,hz⟩:=I.list hq
    obtain ⟨u,hu,ru⟩:=rv.get hx
    obtain ⟨f0,f1,f2,f3,f4,f5⟩:=hf it (by simp)
    refine wpAny_pyNext_list_item st p.isList (x:=u) (by simpa using hu) fun h' st' sb=>?_
    have I1:Inv X pins σ H {s with heap:=h'}:=I.turned (t':=s.toks) (fun b o hb e=>(sb.2 b hb).trans e) f0 f1 f3 f4 f5
    obtain ⟨o,e,c,d⟩:=id st'
    exact ⟨u,rfl,zpg (s:={s with heap:=h'}) e c d (by decide) ⟨x,H,I1,ru,⟨rfl,fun ys hy=>by rw [I.list_inj hy hq];exact hx⟩,st',fun b hb=>(hf b hb).1⟩⟩
  done:=by
    intro X hP hw hK hc i pins s σ H E I hf st hg
    subst hP hw hK
    obtain ⟨xs,hq,hx⟩:=hg
    obtain ⟨its,rv,p,hz⟩:=I.list hq
    obtain ⟨f0,f1,f2,f3,f4,f5⟩:=hf it (by simp)
    have hl:=rv.length
    exact wpAny_pyNext_list_end (I.ok.hd hc) st p.isList (by simp;omega) fun h' eb=>⟨rfl,I.turned (t':=s.toks) (fun b o hb e=>eb b o hb e) f0 f1 f3 f4 f5⟩
  self:=fun _ _ _ _ _ st h=>wpAny_pyIter_listiter st h
theorem zsx {P:Program}{w:World}{K:PySem.W.Frag}{tg:Expr} (a it:Addr):Turn P w K tg (Itt K a) [it] it (fun i h=>h.IsTupleIter it a i) where
  mem:=by simp
  obj:=fun i h st b hb=>by
    have e:b=it:=by simpa using hb
    subst e
    obtain ⟨o,e,c,d⟩:=st
    exact ⟨o,e,fun v z=>by rw [d] at z;cases z⟩
  keep:=fun i h h' st k=>st.at fun o e=>k it (by simp) o e
  item:=by
    intro X hP hw hK hc i pins s σ H E I hf st hg
    subst hP hw hK
    obtain ⟨xs,x,hq,hx⟩:=hg
    obtain ⟨its,rv,p,hz⟩:=I.tuple hq
    obtain ⟨u,hu,ru⟩:=rv.get hx
    obtain ⟨f0,f1,f2,f3,f4,f5⟩:=hf it (by simp)
    refine wpAny_pyNext_tuple_item st (show s.heap.IsTuple a its.toArray from p) (x:=u) (by simpa using hu) fun h' st' sb=>?_
    have I1:Inv X pins σ H {s with heap:=h'}:=I.turned (t':=s.toks) (fun b o hb e=>(sb.2 b hb).trans e) f0 f1 f3 f4 f5
    obtain ⟨o,e,c,d⟩:=id st'
    exact ⟨u,rfl,zpg (s:={s with heap:=h'}) e c d (by decide) ⟨x,H,I1,ru,⟨rfl,fun ys hy=>by rw [I.tuple_inj hy hq];exact hx⟩,st',fun b hb=>(hf b hb).1⟩⟩
  done:=by
    intro X hP hw hK hc i pins s σ H E I hf st hg
    subst hP hw hK
    obtain ⟨xs,hq,hx⟩:=hg
    obtain ⟨its,rv,p,hz⟩:=I.tuple hq
    obtain ⟨f0,f1,f2,f3,f4,f5⟩:=hf it (by simp)
    have hl:=rv.length
    exact wpAny_pyNext_tuple_end (I.ok.hd hc) st (show s.heap.IsTuple a its.toArray from p) (by simp;omega) fun h' eb=>⟨rfl,I.turned (t':=s.toks) (fun b o hb e=>eb b o hb e) f0 f1 f3 f4 f5⟩
  self:=fun _ _ _ _ _ st h=>wpAny_pyIter_tupleiter st h
theorem zsy {P:Program}{w:World}{K:PySem.W.Frag}{tg:Expr} (it:Addr) (lo:Int) (n:Nat):Turn P w K tg (Itr lo n) [it] it (fun i h=>IsRangeIter h it (lo+(i:Nat) * 1) ((n:Int) - (i:Nat)) 1) where
  mem:=by simp
  obj:=fun i h st b hb=>by
    have e:b=it:=by simpa using hb
    subst e
    exact ⟨_,st,fun v z=>by
      have z':Data.fields _=Data.cell v:=z
      cases z'⟩
  keep:=fun i h h' st k=>k it (by simp) _ st
  item:=by
    intro X hP hw hK hc i pins s σ H E I hf st hg
    subst hP hw hK
    obtain ⟨f0,f1,f2,f3,f4,f5⟩:=hf it (by simp)
    have W:=Walks.range (prog:=X.prog) (w:=X.w) (I.ok.hd hc) it lo 1 n
    refine W.item i s _ _ hg st fun v h' tk hv st' kk=>?_
    obtain ⟨t,rfl⟩:=hv
    have I1:Inv X pins σ H {s with heap:=h',toks:=tk}:=I.turned (fun b o hb e=>kk b o (by simpa using hb) e) f0 f1 f3 f4 f5
    refine ⟨_,rfl,zpg (s:={s with heap:=h',toks:=tk}) (n:="range_iterator") st' rfl rfl (by decide) ⟨.int (lo+i),H,I1,⟨t,?_⟩,⟨rfl,rfl⟩,st',fun b hb=>(hf b hb).1⟩⟩
    rw [Int.mul_one]
  done:=by
    intro X hP hw hK hc i pins s σ H E I hf st hg
    subst hP hw hK
    obtain ⟨f0,f1,f2,f3,f4,f5⟩:=hf it (by simp)
    exact wpAny_pyNext_range_end (I.ok.hd hc) st (by have:n≤i:=hg;omega) fun h' eb=>⟨rfl,I.turned (t':=s.toks) (fun b o hb e=>eb b o hb e) f0 f1 f3 f4 f5⟩
  self:=fun _ _ _ _ _ st h=>wpAny_pyIter_rangeiter st h
end L2
namespace L2
open PySem PySem.Spec PyProof.Rows
section
variable {X:Cx}{tg:Expr}
def iList (K:PySem.W.Frag) (tl:TE):TI:=fun σ H R=>tl σ H fun x H1=>∃ a,x=.ref a /\ (∃ xs,SqL K H1 a xs) /\ R (Itl K a) H1
def iTup (K:PySem.W.Frag) (tl:TE):TI:=fun σ H R=>tl σ H fun x H1=>∃ a,x=.ref a /\ (∃ xs,SqT K H1 a xs) /\ R (Itt K a) H1
theorem z09 {l:Expr}{tl:TE} (hl:PE X l tl):PI X tg l (iList X.K tl):=by
  intro pins s σ H R I h
  refine thn (hl pins s σ H _ I h) fun v s1 ⟨x,H1,I1,r1,q1⟩=>?_
  obtain ⟨a,e,⟨xs,hq⟩,q⟩:=q1
  subst e
  cases r1
  obtain ⟨its,rv,p,hz⟩:=I1.list hq
  refine wpAny_pyIter_list p.isList ?_
  refine ⟨s1.heap.objs.size,[s1.heap.objs.size],_,_,H1,rfl,I1.kept (t':=s1.toks) fun b o e=>Heap.get?_push_of_some _ e,zuu a _,⟨_,Heap.get?_push_size _ rfl,rfl,rfl⟩,fun b hb=>?_,q⟩
  have e:b=s1.heap.objs.size:=by simpa using hb
  subst e
  exact I1.fpOk (Nat.le_refl _) (I1.hok.fresh (Nat.le_refl _))
theorem pi_tup {l:Expr}{tl:TE} (hl:PE X l tl):PI X tg l (iTup X.K tl):=by
  intro pins s σ H R I h
  refine thn (hl pins s σ H _ I h) fun v s1 ⟨x,H1,I1,r1,q1⟩=>?_
  obtain ⟨a,e,⟨xs,hq⟩,q⟩:=q1
  subst e
  cases r1
  obtain ⟨its,rv,p,hz⟩:=I1.tuple hq
  refine wpAny_pyIter_tuple (show s1.heap.IsTuple a its.toArray from p) ?_
  refine ⟨s1.heap.objs.size,[s1.heap.objs.size],_,_,H1,rfl,I1.kept (t':=s1.toks) fun b o e=>Heap.get?_push_of_some _ e,zsx a _,⟨_,Heap.get?_push_size _ rfl,rfl,rfl⟩,fun b hb=>?_,q⟩
  have e:b=s1.heap.objs.size:=by simpa using hb
  subst e
  exact I1.fpOk (Nat.le_refl _) (I1.hok.fresh (Nat.le_refl _))
theorem zxy {pins:List (Addr×Obj)}{σ:St}{H:Hp}{s:Shared}{R:It->Hp->Prop}{E:Value->Shared->Prop}{lo hi:Int}{t u v:Tok}{tk:Nat} (I:Inv X pins σ H s) (h1:-(2 ^ 62)≤lo) (h2:lo < 2 ^ 62) (h3:-(2 ^ 62)≤hi) (h4:hi < 2 ^ 62)
    (q:R (Itr lo (hi - lo).toNat) H):wpAny (model X.prog X.w) X.A (pyIter (.ref s.heap.objs.size)) (PIE X pins σ tg R) E {s with heap:=s.heap.push {cls:=.type "range",data:=.fields #[.int lo t,.int hi u,.int 1 v]},toks:=tk}:=by
  refine wpAny_pyIter_range (IsRange.new ..) (small_one h1 h2 h3 h4) ?_
  have I1:Inv X pins σ H {s with heap:=s.heap.push {cls:=.type "range",data:=.fields #[.int lo t,.int hi u,.int 1 v]},toks:=tk}:=I.kept fun b o e=>Heap.get?_push_of_some _ e
  refine ⟨(s.heap.push {cls:=.type "range",data:=.fields #[.int lo t,.int hi u,.int 1 v]}).objs.size,[(s.heap.push {cls:=.type "range",data:=.fields #[.int lo t,.int hi u,.int 1 v]}).objs.size],_,_,H,rfl,
    I1.kept (t':=tk) fun b o e=>Heap.get?_push_of_some _ e,zsy _ lo (hi - lo).toNat,?_,fun b hb=>?_,q⟩
  · have e1:lo+((0:Nat):Int) * 1=lo:=by simp
    have e2:(((hi - lo).toNat:Nat):Int) - ((0:Nat):Int)=Builtin.Range.rangeSize lo hi 1:=by rw [rangeSize_one];split<;>omega
    show IsRangeIter _ _ (lo+((0:Nat):Int) * 1) ((((hi - lo).toNat:Nat):Int) - ((0:Nat):Int)) 1
    rw [e1,e2]
    exact Heap.get?_push_size _ rfl
  · have e:b=(s.heap.push {cls:=.type "range",data:=.fields #[.int lo t,.int hi u,.int 1 v]}).objs.size:=by simpa using hb
    subst e
    exact I1.fpOk (Nat.le_refl _) (I1.hok.fresh (Nat.le_refl _))
def iRng1 (ta:TA):TI:=fun σ H R=>ta σ H fun vs H1=>∃ j:Int,vs=[.int j] /\ -(2 ^ 62)≤j /\ j < 2 ^ 62 /\ R (Itr 0 j.toNat) H1
theorem zvh {a:Expr}{ta:TA}{p pos:Pos} (hg:Gl X "range") (hm:X.mg "range"=none) (ha:PA X [a] ta) (hs:starEach [a] X.env=[(false,eval a X.env)]:=by rfl):PI X tg (.Call (.Name "range" p) [a] [] pos) (iRng1 ta):=by
  intro pins s σ H R I h
  refine Call_ (zhg I hg hm boot_range (PyProof.Rows.callWith_type1 (thn (ha pos pins s σ H _ I h) fun us s1 ⟨vs,H1,I1,r1,q1⟩=>?_) hs rfl))
  obtain ⟨j,e,q1,q2,q⟩:=q1
  subst e
  cases r1 with
  | cons r rr =>
    cases rr
    obtain ⟨t,rfl⟩:=r
    exact call_range_1 (zxy I1 (by omega) (by omega) q1 q2 (by simpa using q))
def tFor (wi:TI) (g:TG) (tb:TS):TS:=fun D σ H=>wi σ H fun J H1=>∃ W:Nat->Nat->St->Hp->Prop,(∃ m,W 0 m σ H1) /\ ∀ i m σ H,W i m σ H->
  (J.stop i H /\ D.nx σ H) \/ (J.go i H /\ ∃ N:St->Hp->Prop,(∀ σ' H',N σ' H'->∃ m',m' < m /\ W (i+1) m' σ' H') /\ ∀ x H',J.yld i H x H'->g x σ H' fun σ2 H2=>tb {D with nx:=N,ct:=N,bk:=D.nx} σ2 H2)
def zl4 (fp:List Addr) (h:Heap):List (Addr×Obj):=fp.filterMap fun b=>(h.get? b).map fun o=>(b,o)
theorem zhq {fp:List Addr}{h:Heap}{b:Addr}{o:Obj} (hb:b∈fp) (e:h.get? b=some o):(b,o)∈zl4 fp h:=List.mem_filterMap.mpr ⟨b,hb,by rw [e];rfl⟩
theorem zvw {fp:List Addr}{h:Heap}{p:Addr×Obj} (hp:p∈zl4 fp h):p.1∈fp /\ h.get? p.1=some p.2:=by
  obtain ⟨b,hb,e⟩:=List.mem_filterMap.mp hp
  cases q:h.get? b with
  | none=>rw [q] at e;cases e
  | some o =>
    rw [q] at e
    have e':(b,o)=p:=Option.some.inj e
    subst e'
    exact ⟨hb,q⟩
theorem Inv.pinned {pins:List (Addr×Obj)}{σ:St}{H:Hp}{s:Shared}{fp:List Addr} (I:Inv X pins σ H s) (hf:∀ b∈fp,zf9 X pins H b) (ho:∀ b∈fp,∃ o,s.heap.get? b=some o /\ ∀ v,o.data≠.cell v):Inv X (pins++zl4 fp s.heap) σ H s:=
  I.pins_of fun p hp=>(List.mem_append.mp hp).elim (fun z=>I.pin p (List.mem_append_right _ z)) fun z=>by
    obtain ⟨hb,e⟩:=zvw z
    obtain ⟨f0,f1,f2,_⟩:=hf p.1 hb
    obtain ⟨o,e',d⟩:=ho p.1 hb
    rw [e] at e';cases e'
    exact ⟨e,f0,f1,f2,d⟩
theorem Inv.unpinned {pins pl:List (Addr×Obj)}{σ:St}{H:Hp}{s:Shared} (I:Inv X (pins++pl) σ H s):Inv X pins σ H s:=I.pins_of fun p hp=>I.pin p (List.mem_append_right _ (List.mem_append_left _ hp))
theorem ps_for {iter:Expr}{body:List Stmt}{wi:TI}{g:TG}{tb:TS}{pos:Pos} (hp:PassesOwn (model X.prog X.w) X.A X.env X.xe) (hc:X.calm=true) (hi:PI X tg iter wi) (hg:PG X tg g) (hb:PSs X body tb)
    (hs:∀ x,foldedSetIterable iter X.env x=pure x:=by intro _;rfl):PS X (.For tg iter body [] pos) (tFor wi g tb):=by
  intro pins s σ H D I h
  refine wpAny_For (thn (hi pins s σ H _ I h) fun v s1 h1=>thn h1 fun itv s2 h2=>?_) hs
  obtain ⟨it,fp,tn,J,H2,e,I2,T,st2,f2,W,⟨m0,w0⟩,turn⟩:=h2
  subst e
  have stat:∀ {H':Hp},(∀ b∈fp,H' b=none)->∀ b∈fp,zf9 X pins H' b:=fun hn b hb=>⟨hn b hb,(f2 b hb).2⟩
  refine codeAny_forLoop_any (fun n s'=>∃ i σ' H',Inv X pins σ' H' s' /\ tn i s'.heap /\ (∀ b∈fp,H' b=none) /\ W i n σ' H') ?_ m0 ⟨0,σ,H2,I2,st2,fun b hb=>(f2 b hb).1,w0⟩
  rintro n s3 ⟨i,σ3,H3,I3,st3,fr3,w3⟩
  rcases turn i n σ3 H3 w3 with ⟨stop,qn⟩ | ⟨go,N,hN,step⟩
  · refine wpAny_passesOwn hp (thn (T.done X rfl rfl rfl hc i pins s3 σ3 H3 X.xe I3 (stat fr3) st3 stop) fun r s4 ⟨hr,I4⟩=>?_)
    subst hr
    exact wpAny_execs_nil ⟨σ3,H3,I4,qn⟩
  · refine wpAny_passesOwn hp (thn (T.item X rfl rfl rfl hc i pins s3 σ3 H3 X.xe I3 (stat fr3) st3 go) fun r s4 ⟨u,hr,h4⟩=>?_)
    subst hr
    refine wpAny_passesOwn hp (thn h4 fun _ s5 ⟨x,H5,I5,r5,y5,st5,fr5⟩=>?_)
    have I5':=I5.pinned (stat fr5) (T.obj _ _ st5)
    refine wpAny_passesOwn hp (thn (hg _ s5 σ3 H5 x u _ I5' r5 (step x H5 y5)) fun _ s6 ⟨σ6,H6,I6,q6⟩=>?_)
    refine wpAny_passesOwn hp (thn (hb _ s6 σ6 H6 _ I6 q6) fun f s7 q7=>?_)
    have again:∀ {σ7:St}{H7:Hp},Inv X (pins++zl4 fp s5.heap) σ7 H7 s7->N σ7 H7->∃ m,m < n /\ ∃ i σ' H',Inv X pins σ' H' s7 /\ tn i s7.heap /\ (∀ b∈fp,H' b=none) /\ W i m σ' H':=fun {σ7 H7} I7 n7=>by
      obtain ⟨m',hm,w7⟩:=hN σ7 H7 n7
      refine ⟨m',hm,i+1,σ7,H7,I7.unpinned,T.keep _ _ _ st5 fun b hb o e=>(I7.pin (b,o) (List.mem_append_right _ (List.mem_append_right _ (zhq hb e)))).1,fun b hb=>?_,w7⟩
      obtain ⟨o,e,d⟩:=T.obj _ _ st5 b hb
      exact (I7.pin (b,o) (List.mem_append_right _ (List.mem_append_right _ (zhq hb e)))).2.1
    cases f with
    | next=>obtain ⟨σ7,H7,I7,n7⟩:=q7;exact again I7 n7
    | cont=>obtain ⟨σ7,H7,I7,n7⟩:=q7;exact again I7 n7
    | brk=>obtain ⟨σ7,H7,I7,q7⟩:=q7;exact ⟨σ7,H7,I7.unpinned,q7⟩
    | ret v=>obtain ⟨x7,σ7,H7,I7,r7,q7⟩:=q7;exact ⟨x7,σ7,H7,I7.unpinned,r7,q7⟩
end
end L2
namespace L2
open PySem PySem.Spec PyProof.Rows
abbrev R2:=V->V->Hp->VK->Prop
def OpR (X:Cx) (f:Value->Value->Sem Value) (r:R2):Prop:=
  ∀ (pins : List (Addr × Obj)) (s : Shared) (σ : St) (H : Hp) (x y : V) (v u : Value) (Q : VK), Inv X pins σ H s -> RelV x v -> RelV y u -> r x y H Q ->
    wpAny (model X.prog X.w) X.A (f v u) (EP X pins σ Q) X.xe s
def UnR (X:Cx) (f:Value->Sem Value) (r:V->Hp->VK->Prop):Prop:=
  ∀ (pins : List (Addr × Obj)) (s : Shared) (σ : St) (H : Hp) (x : V) (v : Value) (Q : VK), Inv X pins σ H s -> RelV x v -> r x H Q ->
    wpAny (model X.prog X.w) X.A (f v) (EP X pins σ Q) X.xe s
def zdn (X:Cx) (f:Value) (r:List V->Hp->VK->Prop):Prop:=
  ∀ (pins : List (Addr × Obj)) (s : Shared) (σ : St) (H : Hp) (xs : List V) (us : List Value) (Q : VK), Inv X pins σ H s -> Vals xs us -> r xs H Q ->
    wpAny (model X.prog X.w) X.A (call f us) (EP X pins σ Q) X.xe s
def TruR (X:Cx) (r:V->Hp->(Bool->Hp->Prop)->Prop):Prop:=
  ∀ (pins : List (Addr × Obj)) (s : Shared) (σ : St) (H : Hp) (x : V) (v : Value) (Q : Bool -> Hp -> Prop), Inv X pins σ H s -> RelV x v -> r x H Q ->
    wpAny (model X.prog X.w) X.A (truthy v) (TP X pins σ Q) X.xe s
def tOp (r:R2) (ta tb:TE):TE:=fun σ H Q=>ta σ H fun x H1=>tb σ H1 fun y H2=>r x y H2 Q
def tUn (r:V->Hp->VK->Prop) (ta:TE):TE:=fun σ H Q=>ta σ H fun x H1=>r x H1 Q
def rI (C:Int->Int->Prop) (g:Int->Int->V):R2:=fun x y H Q=>∃ i j,x=.int i /\ y=.int j /\ C i j /\ Q (g i j) H
def rI0 (g:Int->Int->V):R2:=fun x y H Q=>∃ i j,x=.int i /\ y=.int j /\ Q (g i j) H
def rU (g:Int->V):V->Hp->VK->Prop:=fun x H Q=>∃ i,x=.int i /\ Q (g i) H
section
variable {X:Cx}{a b c:Expr}{ta tb tc:TE}{pos:Pos}
theorem binT (ha:PE X a ta) (hb:PE X b tb) {pins:List (Addr×Obj)}{s:Shared}{σ:St}{H:Hp}{R:V->V->Hp->Prop} (I:Inv X pins σ H s)
    (h:ta σ H fun x H1=>tb σ H1 fun y H2=>R x y H2) {Q:Value->Shared->Prop}{f:Value->Value->Sem Value}
    (hf:∀ v u s2 x y H2,Inv X pins σ H2 s2->RelV x v->RelV y u->R x y H2->wpAny (model X.prog X.w) X.A (f v u) Q X.xe s2) :
    wpAny (model X.prog X.w) X.A (eval a X.env) (fun v s₁=>wpAny (model X.prog X.w) X.A (eval b X.env) (fun u s₂=>wpAny (model X.prog X.w) X.A (f v u) Q X.xe s₂) X.xe s₁) X.xe s:=by
  refine thn (ha pins s σ H _ I h) fun v s1 ⟨x,H1,I1,r1,q1⟩=>?_
  refine thn (hb pins s1 σ H1 _ I1 q1) fun u s2 ⟨y,H2,I2,r2,q2⟩=>?_
  exact hf v u s2 x y H2 I2 r1 r2 q2
theorem pe_op {op:Operator}{r:R2} (ho:OpR X (binaryOp op) r) (ha:PE X a ta) (hb:PE X b tb):PE X (.BinOp a op b pos) (tOp r ta tb):=by
  intro pins s σ H Q I h
  exact wpAny_BinOp (binT ha hb I h fun v u s2 x y H2 I2 rx ry q=>ho pins s2 σ H2 x y v u Q I2 rx ry q)
theorem pe_un {op:UnaryOp}{r:V->Hp->VK->Prop} (ho:UnR X (unaryOp op) r) (ha:PE X a ta):PE X (.UnaryOp op a pos) (tUn r ta):=by
  intro pins s σ H Q I h
  exact UnaryOp_ (thn (ha pins s σ H _ I h) fun v s1 ⟨x,H1,I1,r1,q1⟩=>ho pins s1 σ H1 x v Q I1 r1 q1)
theorem opI {f:Value->Value->Sem Value}{C:Int->Int->Prop}{g:Int->Int->Int}
    (rule:∀ (i j:Int) (t u:Tok) (s:Shared) (Q:Value->Shared->Prop) (E:Value->Shared->Prop),C i j->Q (.int (g i j) s.toks) {s with toks:=s.toks+1}->wpAny (model X.prog X.w) X.A (f (.int i t) (.int j u)) Q E s) :
    OpR X f (rI C fun i j=>.int (g i j)):=by
  intro pins s σ H x y v u Q I rx ry h
  obtain ⟨i,j,rfl,rfl,hc,q⟩:=h
  obtain ⟨t,rfl⟩:=rx
  obtain ⟨t',rfl⟩:=ry
  exact rule i j t t' s _ _ hc ⟨.int (g i j),H,I.tok _,⟨_,rfl⟩,q⟩
theorem opI0 {f:Value->Value->Sem Value}{g:Int->Int->Int}
    (rule:∀ (i j:Int) (t u:Tok) (s:Shared) (Q:Value->Shared->Prop) (E:Value->Shared->Prop),Q (.int (g i j) s.toks) {s with toks:=s.toks+1}->wpAny (model X.prog X.w) X.A (f (.int i t) (.int j u)) Q E s) :
    OpR X f (rI0 fun i j=>.int (g i j)):=by
  intro pins s σ H x y v u Q I rx ry h
  obtain ⟨i,j,rfl,rfl,q⟩:=h
  obtain ⟨t,rfl⟩:=rx
  obtain ⟨t',rfl⟩:=ry
  exact rule i j t t' s _ _ ⟨.int (g i j),H,I.tok _,⟨_,rfl⟩,q⟩
theorem opB0 {f:Value->Value->Sem Value}{g:Int->Int->Bool}
    (rule:∀ (i j:Int) (t u:Tok) (s:Shared) (Q:Value->Shared->Prop) (E:Value->Shared->Prop),Q (.bool (g i j)) s->wpAny (model X.prog X.w) X.A (f (.int i t) (.int j u)) Q E s) :
    OpR X f (rI0 fun i j=>.bl (g i j)):=by
  intro pins s σ H x y v u Q I rx ry h
  obtain ⟨i,j,rfl,rfl,q⟩:=h
  obtain ⟨t,rfl⟩:=rx
  obtain ⟨t',rfl⟩:=ry
  exact rule i j t t' s _ _ ⟨.bl (g i j),H,I,rfl,q⟩
def CDiv (i j:Int):Prop:=0 < j /\ j < 1073741824
def CPow (i j:Int):Prop:=0≤j /\ j≤1000000 /\ i.natAbs < 2 ^ 64
def CMul (i j:Int):Prop:=(-(2 ^ 64) < i /\ i < 2 ^ 64) \/ (-(2 ^ 64) < j /\ j < 2 ^ 64)
theorem CMul.ok {i j:Int} (h:CMul i j):IntMulOk i j:=by
  rcases h with ⟨h1,h2⟩ | ⟨h1,h2⟩
  · exact .of_left (intBits_le_64 h1 h2)
  · exact .of_right (intBits_le_64 h1 h2)
theorem op_add:OpR X (binaryOp .Add) (rI0 fun i j=>.int (i+j)):=opI0 fun _ _ _ _ _ _ _ q=>add_int q
theorem op_sub:OpR X (binaryOp .Sub) (rI0 fun i j=>.int (i - j)):=opI0 fun _ _ _ _ _ _ _ q=>sub_int q
theorem op_mul:OpR X (binaryOp .Mult) (rI CMul fun i j=>.int (i * j)):=opI fun _ _ _ _ _ _ _ hc q=>mul_int q hc.ok
theorem z1f:OpR X (binaryOp .FloorDiv) (rI CDiv fun i j=>.int (i / j)):=opI fun i j _ _ _ _ _ hc q=>by
  have h1:(0:Int) < j:=hc.1
  have h2:j < 1073741824:=hc.2
  exact floordiv_int (by omega) (by rw [Int.fdiv_eq_ediv_of_nonneg i (by omega)];exact q) (.inl (PyProof.noPylong_small (by omega)))
theorem op_mod:OpR X (binaryOp .Mod) (rI (fun _ j=>0 < j) fun i j=>.int (i % j)):=opI fun i j _ _ _ _ _ hc q=>by
  have h1:(0:Int) < j:=hc
  exact mod_int' (by omega) (by rw [Int.fmod_eq_emod_of_nonneg i (by omega)];exact q)
theorem op_pow:OpR X (binaryOp .Pow) (rI CPow fun i j=>.int (i ^ j.toNat)):=opI fun _ _ _ _ _ _ _ hc q=>pow_int_small hc.1 hc.2.1 hc.2.2 q
theorem unI {f:Value->Sem Value}{g:Int->Int}
    (rule:∀ (i:Int) (t:Tok) (s:Shared) (Q:Value->Shared->Prop) (E:Value->Shared->Prop),Q (.int (g i) s.toks) {s with toks:=s.toks+1}->wpAny (model X.prog X.w) X.A (f (.int i t)) Q E s) :
    UnR X f (rU fun i=>.int (g i)):=by
  intro pins s σ H x v Q I rx h
  obtain ⟨i,rfl,q⟩:=h
  obtain ⟨t,rfl⟩:=rx
  exact rule i t s _ _ ⟨.int (g i),H,I.tok _,⟨_,rfl⟩,q⟩
theorem zus:UnR X (unaryOp .USub) (rU fun i=>.int (-i)):=unI fun _ _ _ _ _ q=>neg_int q
end
section
variable {X:Cx}{a b c:Expr}{ta tb tc:TE}{pos:Pos}
theorem zmo {pins:List (Addr×Obj)}{σ:St}{H:Hp}{s:Shared}{Q:VK}{k k':Bool} (I:Inv X pins σ H s) (q:Q (.bl k) H) (e:k=k'):EP X pins σ Q (.bool k') s:=by
  subst e
  exact ⟨.bl k,H,I,rfl,q⟩
theorem op_lt:OpR X (compareOp .Lt) (rI0 fun i j=>.bl (decide (i < j))):=opB0 fun _ _ _ _ _ _ _ q=>lt_int q
theorem op_le:OpR X (compareOp .LtE) (rI0 fun i j=>.bl (decide (i≤j))):=opB0 fun _ _ _ _ _ _ _ q=>le_int q
theorem op_gt:OpR X (compareOp .Gt) (rI0 fun i j=>.bl (decide (j < i))):=opB0 fun _ _ _ _ _ _ _ q=>gt_int q
theorem op_ge:OpR X (compareOp .GtE) (rI0 fun i j=>.bl (decide (j≤i))):=opB0 fun _ _ _ _ _ _ _ q=>ge_int q
theorem zvu:OpR X (compareOp .In) (fun x y H Q=>∃ i j,x=.str i /\ y=.str j /\ Q (.bl (!(Builtin.Str.occurrences j i 0 j.length 1).isEmpty)) H):=by
  intro pins s σ H x y v u Q I rx ry h
  obtain ⟨i,j,rfl,rfl,q⟩:=h
  obtain ⟨t,rfl⟩:=rx
  obtain ⟨t',rfl⟩:=ry
  exact in_str (zmo I q rfl)
theorem op_isN:OpR X (compareOp .Is) (fun x y H Q=>y=.non /\ Q (.bl (decide (x=.non))) H):=by
  intro pins s σ H x y v u Q I rx ry h
  obtain ⟨rfl,q⟩:=h
  cases ry
  refine is_none_gen (zmo I q ?_)
  cases x<;>first
    | (cases rx;rfl)
    | (obtain ⟨t,rfl⟩:=rx;rfl)
theorem z1e:OpR X (compareOp .IsNot) (fun x y H Q=>y=.non /\ Q (.bl (!decide (x=.non))) H):=by
  intro pins s σ H x y v u Q I rx ry h
  obtain ⟨rfl,q⟩:=h
  cases ry
  refine isnot_none_gen (zmo I q ?_)
  cases x<;>first
    | (cases rx;rfl)
    | (obtain ⟨t,rfl⟩:=rx;rfl)
theorem zqn:OpR X (compareOp .NotIn) (fun x y H Q=>∃ i j,x=.str i /\ y=.str j /\ Q (.bl (!(!(Builtin.Str.occurrences j i 0 j.length 1).isEmpty))) H):=by
  intro pins s σ H x y v u Q I rx ry h
  obtain ⟨i,j,rfl,rfl,q⟩:=h
  obtain ⟨t,rfl⟩:=rx
  obtain ⟨t',rfl⟩:=ry
  exact notIn_str (zmo I q rfl)
def isObj:HO->Bool
  | .lst _=>true
  | .ins _ _ _=>true
  | _=>false
theorem zoa {pins:List (Addr×Obj)}{s:Shared}{σ:St}{H:Hp}{a:Addr}{o:HO} (I:Inv X pins σ H s) (h:H a=some o) (p:isObj o=true):∃ ob,s.heap.get? a=some ob /\ ob.cls≠.type "tuple":=by
  cases o with
  | lst xs =>
    obtain ⟨_,its,n,_,e⟩:xs.length≤sizeLine /\ ∃ (its:List Value) (n:Nat),Vals xs its /\ s.heap.get? a=some {cls:=.type "list",data:=.seq its.toArray n}:=I.hok a _ h
    exact ⟨_,e,(by show Value.type "list"≠.type "tuple";decide +kernel)⟩
  | ins C dx fs =>
    have x:=I.hok a _ h
    obtain ⟨_,_,_,e,_⟩:=x
    exact ⟨_,e,(by show Value.ref C≠.type "tuple";exact fun z=>by cases z)⟩
  | _=>exact absurd (show false=true from p) Bool.false_ne_true
theorem OpR.or {f:Value->Value->Sem Value}{r r':R2} (h:OpR X f r) (h':OpR X f r'):OpR X f (fun x y H Q=>r x y H Q \/ r' x y H Q):=by
  intro pins s σ H x y v u Q I rx ry q
  rcases q with q | q
  · exact h pins s σ H x y v u Q I rx ry q
  · exact h' pins s σ H x y v u Q I rx ry q
theorem z1b {op:CmpOp}{r:R2} (ho:OpR X (compareOp op) r) (ha:PE X a ta) (hb:PE X b tb) (hm:behindInMarks op b=false):PE X (.Compare a [op] [b] pos) (tOp r ta tb):=by
  intro pins s σ H Q I h
  exact wpAny_Compare1 (binT ha hb I h fun v u s2 x y H2 I2 rx ry q=>ho pins s2 σ H2 x y v u Q I2 rx ry q) hm
def tTest (t:TE):TT:=fun σ H Q=>t σ H fun x H'=>∃ k,x=.bl k /\ Q k H'
theorem zsf {op:CmpOp}{r:R2} (ho:OpR X (compareOp op) r) (ha:PE X a ta) (hb:PE X b tb) (hm:behindInMarks op b=false):PT X (.Compare a [op] [b] pos) (tTest (tOp r ta tb)):=by
  intro pins s σ H Q I h
  refine wpAny_isTrue_Compare1 (thn (ha pins s σ H _ I h) fun v s1 ⟨x,H1,I1,r1,q1⟩=>thn (hb pins s1 σ H1 _ I1 q1) fun u s2 ⟨y,H2,I2,r2,q2⟩=>
    thn (ho pins s2 σ H2 x y v u _ I2 r1 r2 q2) fun c s3 ⟨z,H3,I3,r3,k,e,q3⟩=>?_) hm
  subst e
  cases r3
  exact wpAny_truthy_bool ⟨H3,I3,q3⟩
def zpu (r r':R2) (ta tb tc:TE):TE:=fun σ H Q=>ta σ H fun x H1=>tb σ H1 fun y H2=>r x y H2 fun z H3=>∃ k,z=.bl k /\
  (if k=true then tc σ H3 fun w' H4=>r' y w' H4 Q else Q (.bl false) H3)
theorem zx7 {op op':CmpOp}{r r':R2} (ho:OpR X (compareOp op) r) (ho':OpR X (compareOp op') r') (ha:PE X a ta) (hb:PE X b tb) (hc:PE X c tc)
    (hm:lastMarks [op,op'] [b,c]=false:=by with_unfolding_all rfl):PE X (.Compare a [op,op'] [b,c] pos) (zpu r r' ta tb tc):=by
  intro pins s σ H Q I h
  refine Compare_chain (thn (ha pins s σ H _ I h) fun v s1 ⟨x,H1,I1,r1,q1⟩=>chain_link (thn (hb pins s1 σ H1 _ I1 q1) fun u s2 ⟨y,H2,I2,r2,q2⟩=>
    thn (ho pins s2 σ H2 x y v u _ I2 r1 r2 q2) fun d s3 ⟨z,H3,I3,r3,k,e,q3⟩=>?_)) hm
  subst e
  cases r3
  refine wpAny_truthy_bool ?_
  cases k with
  | false=>exact ite_ff ⟨.bl false,H3,I3,rfl,q3⟩
  | true=>exact ite_tt (chain_last (thn (hc pins s3 σ H3 _ I3 q3) fun w' s4 ⟨z',H4,I4,r4,q4⟩=>ho' pins s4 σ H4 y z' u w' Q I4 r2 r4 q4))
theorem zx2 {op op':CmpOp}{r r':R2} (ho:OpR X (compareOp op) r) (ho':OpR X (compareOp op') r') (ha:PE X a ta) (hb:PE X b tb) (hc:PE X c tc)
    (hm:lastMarks [op,op'] [b,c]=false:=by with_unfolding_all rfl):PT X (.Compare a [op,op'] [b,c] pos) (tTest (zpu r r' ta tb tc)):=by
  intro pins s σ H Q I h
  refine isTrue_chain (thn (ha pins s σ H _ I h) fun v s1 ⟨x,H1,I1,r1,q1⟩=>test_link (thn (hb pins s1 σ H1 _ I1 q1) fun u s2 ⟨y,H2,I2,r2,q2⟩=>
    thn (ho pins s2 σ H2 x y v u _ I2 r1 r2 q2) fun d s3 ⟨z,H3,I3,r3,k,e,q3⟩=>?_)) hm
  subst e
  cases r3
  refine wpAny_truthy_bool ?_
  cases k with
  | false =>
    obtain ⟨k',e',q'⟩:=q3
    cases e'
    exact ite_ff ⟨H3,I3,q'⟩
  | true =>
    refine ite_tt (test_last (thn (hc pins s3 σ H3 _ I3 q3) fun w' s4 ⟨z',H4,I4,r4,q4⟩=>thn (ho' pins s4 σ H4 y z' u w' _ I4 r2 r4 q4) fun d' s5 ⟨z2,H5,I5,r5,k2,e2,q5⟩=>?_))
    subst e2
    cases r5
    exact wpAny_truthy_bool ⟨H5,I5,q5⟩
def TruV (K:PySem.W.Frag) (x:V) (H:Hp) (k:Bool):Prop:=
  match x with
  | .non=>k=false
  | .bl b=>k=b
  | .int i=>k=(i != 0)
  | .str y=>y.length≤sizeLine /\ k=((y.length:Int) != 0)
  | .byt y=>y.size≤sizeLine /\ k=((y.size:Int) != 0)
  | .ref p=>(∃ xs,SqL K H p xs /\ k=!xs.isEmpty) \/ (∃ xs,SqT K H p xs /\ k=!xs.isEmpty) \/ ∃ kvs,H p=some (.dK kvs) /\ k=!kvs.isEmpty
  | _=>False
theorem ztx {κ:Type}{kvs:List (κ×V)}{vs:List (κ×Value)} (r:KV kvs vs):(!vs.isEmpty)=!kvs.isEmpty:=by
  cases r<;>rfl
theorem zmk {xs:List V}{its:List Value} (r:Vals xs its):(!its.toArray.isEmpty)=!xs.isEmpty:=by
  cases r<;>simp
theorem zif:(sizeLine:Nat) < 2 ^ 63:=by rw [sizeLine_eq];decide
theorem tru_ok:TruR X (fun x H Q=>∃ k,TruV X.K x H k /\ Q k H):=by
  intro pins s σ H x v Q I rx h
  obtain ⟨k,e,q⟩:=h
  have hl:=zif
  have hs:sizeLine=16777216:=sizeLine_eq
  cases x with
  | non =>
    cases rx
    have e':k=false:=e
    subst e'
    exact truthy_none ⟨H,I,q⟩
  | bl b =>
    cases rx
    have e':k=b:=e
    subst e'
    exact wpAny_truthy_bool ⟨H,I,q⟩
  | int i =>
    obtain ⟨t,rfl⟩:=rx
    have e':k=(i != 0):=e
    subst e'
    exact PySem.P.truthy_int ⟨H,I,q⟩
  | str y =>
    obtain ⟨t,rfl⟩:=rx
    obtain ⟨hy,e'⟩:y.length≤sizeLine /\ k=((y.length:Int) != 0):=e
    subst e'
    exact PySem.P.truthy_str (by omega) ⟨H,I.tok _,q⟩
  | byt y =>
    obtain ⟨t,rfl⟩:=rx
    obtain ⟨hy,e'⟩:y.size≤sizeLine /\ k=((y.size:Int) != 0):=e
    subst e'
    exact PySem.W.truthy_bytes (by omega) ⟨H,I.tok _,q⟩
  | ref p =>
    cases rx
    have e':(∃ xs,SqL X.K H p xs /\ k=!xs.isEmpty) \/ (∃ xs,SqT X.K H p xs /\ k=!xs.isEmpty) \/ ∃ kvs,H p=some (.dK kvs) /\ k=!kvs.isEmpty:=e
    rcases e' with ⟨xs,hx,e'⟩ | ⟨xs,hx,e'⟩ | ⟨kvs,hx,e'⟩
    · subst e'
      obtain ⟨its,r,pl,hz⟩:=I.list hx
      have hlen:=r.length
      exact wpAny_truthy_list pl.isList (by simp only [List.size_toArray];omega) ⟨H,I.tok _,by rw [zmk r];exact q⟩
    · subst e'
      obtain ⟨its,r,pl,hz⟩:=I.tuple hx
      have hlen:=r.length
      exact truthy_tuple pl (by simp only [List.size_toArray];omega) ⟨H,I.tok _,by rw [zmk r];exact q⟩
    · subst e'
      obtain ⟨hz,hS,vs,r,m⟩:kvs.length≤sizeLine /\ (p==sysModules)=false /\ ∃ vs,KV kvs vs /\ s.heap.DictOf (zi9 X.prog X.w) p vs:=I.hok p _ hx
      have hlen:kvs.length=vs.length:=Paired.length r
      exact wpAny_truthy_dict hS m (by omega) ⟨H,I.tok _,by rw [ztx r];exact q⟩
  | _=>exact (show False from e).elim
theorem zx1 (ha:PE X a ta) (he:∀ whole,isTrue a X.env whole=(do let v <- whole;standAt a.pos;holding [v] (truthy v))) :
    PT X a (fun σ H Q=>ta σ H fun x H'=>∃ k,TruV X.K x H' k /\ Q k H'):=by
  intro pins s σ H Q I h
  exact isTrue_plain (thn (ha pins s σ H _ I h) fun v s1 ⟨x,H1,I1,r1,q1⟩=>tru_ok pins s1 σ H1 x v Q I1 r1 q1) (he _)
theorem zti:OpR X (binaryOp .Add) (fun x y H Q=>∃ i j,x=.str i /\ y=.str j /\ i.length+j.length≤sizeLine /\ Q (.str (i++j)) H):=by
  intro pins s σ H x y v u Q I rx ry h
  obtain ⟨i,j,rfl,rfl,hz,q⟩:=h
  obtain ⟨t,rfl⟩:=rx
  obtain ⟨t',rfl⟩:=ry
  exact add_str (fun t' tk=>⟨.str (i++j),H,I.tok _,⟨_,rfl⟩,q⟩) hz
theorem vals1 {x:V}{us:List Value} (r:Vals [x] us):∃ u,us=[u] /\ RelV x u:=by
  cases r with
  | cons r1 r2=>cases r2;exact ⟨_,rfl,r1⟩
theorem vals2 {x y:V}{us:List Value} (r:Vals [x,y] us):∃ u w',us=[u,w'] /\ RelV x u /\ RelV y w':=by
  cases r with
  | cons r1 r2 =>
    cases r2 with
    | cons r3 r4=>cases r4;exact ⟨_,_,rfl,r1,r3⟩
end
end L2
namespace L2
open PySem PySem.Spec PyProof.Rows
structure ObjM (h:Heap) (x dx C:Addr) (mA:Str->Option Value):Prop where
  obj:h.get? x=some (PySem.W.instObj C dx)
  ns:h.Ns1 dx mA
  ne:dx≠x
theorem zv3 {h:Heap}{dx:Addr}{mA:Str->Option Value} (n:h.Ns1 dx mA):∃ od,h.get? dx=some od /\ ∀ name,PySem.W.lookIn name od=some (mA name):=by
  obtain ⟨o,es,ep,ho,hd,hk,_,hm⟩:=n
  refine ⟨o,ho,fun name=>?_⟩
  have e:=hm name
  unfold nsFind findBy at e
  rw [<- Array.find?_toList] at e
  unfold PySem.W.lookIn
  rw [hd]
  dsimp only
  split
  · rename_i y q
    rw [q] at e
    exact congrArg some e
  · rename_i q
    rw [q] at e
    have a:es.toList.any (·.refKey)=false:=by
      rw [List.any_eq_false]
      intro y hy
      obtain ⟨z,t,hkey⟩:=hk y (Array.mem_toList_iff.mp hy)
      simp [DictEntry.refKey,hkey]
    have a':¬ es.toList.any (·.refKey)=true:=by rw [a];exact Bool.false_ne_true
    rw [if_neg a']
    exact congrArg some e
theorem ObjM.look {h:Heap}{x dx C:Addr}{mA:Str->Option Value} (I:ObjM h x dx C mA):∃ od,PySem.W.InstAt h x (PySem.W.instObj C dx) C (some od) /\ ∀ name,PySem.W.lookIn name od=some (mA name):=
  let ⟨od,ho,hl⟩:=zv3 I.ns
  ⟨od,⟨I.obj,rfl,rfl,ho⟩,hl⟩
section
variable {prog:Program}{w:World}{A:Around}{E:Value->Shared->Prop}{s:Shared}{K:PySem.W.Frag}{x dx C f:Addr}{mA:Str->Option Value}{name:Str}{v:Value}
end
section
variable {P:Program}{w:World}{H H':Hp}{h h':Heap}{a C dx:Addr}{fs fs':List (Str×V)}
theorem z1s (hok:HOk P w H h) (e:H a=some (.ins C dx fs)):∃ mA,ObjM h a dx C mA /\ (∀ f,RelO (fs.lookup f) (mA f)) /\ PySem.Within mA (fs.map (·.1)) /\ fs.length≤1000 /\ H dx=some (.own a):=by
  obtain ⟨d,z,ne,ob,mA,n,r,q⟩:=(show zdm P w H h a (.ins C dx fs) from hok a _ e)
  exact ⟨mA,⟨ob,n,ne⟩,r,q,z,d⟩
end
structure Cls (K:PySem.W.Frag) (C:Addr):Prop where
  pg:PySem.W.plainGet K C Str.empty=true
  hd:PySem.W.hasDictIn K C=true
  po:PySem.W.plainOver K C=true
  sa:PySem.W.findIn K (.ref C) "__setattr__"=some (some (.builtin "object.__setattr__"))
theorem Cls.get {K:PySem.W.Frag}{C:Addr} (c:Cls K C) (f:Str):PySem.W.plainGet K C f=true:=c.pg
section
variable {X:Cx}{pins:List (Addr×Obj)}{σ:St}{H:Hp}{s:Shared}{a C dx:Addr}{fs:List (Str×V)}{f:Str}{v:V}{A:Around}{E:Value->Shared->Prop}
end
section
variable {X:Cx}{o e value:Expr}{f:Str}{pos pos' tpos:Pos}{ta tv:TE}
end
section
variable {X:Cx}{pins:List (Addr×Obj)}{σ:St}{H:Hp}{s:Shared}{A:Around}{E:Value->Shared->Prop}{Q:Value->Shared->Prop}{c:Value}{b:Bool}
inductive zho (K:PySem.W.Frag) (H:Hp):V->Value->Prop where
  | non:zho K H .non (.type "NoneType")
  | bl (x:Bool):zho K H (.bl x) (.type "bool")
  | int (i:Int):zho K H (.int i) (.type "int")
  | str (x:Str):zho K H (.str x) (.type "str")
  | flt (x:UInt64):zho K H (.flt x) (.type "float")
  | lst {a:Addr}{xs:List V} (e:H a=some (.lst xs)):zho K H (.ref a) (.type "list")
  | frz {a:Addr}{o:Obj}{xs:List V} (e:H a=some (.frz o (.lst xs))):zho K H (.ref a) (.type "list")
  | tup {a:Addr}{xs:List V} (e:H a=some (.tup xs)):zho K H (.ref a) (.type "tuple")
  | dK {a:Addr}{kvs:List (Key×V)} (e:H a=some (.dK kvs)):zho K H (.ref a) (.type "dict")
  | dT {a:Addr}{kvs:List (List Key×V)} (e:H a=some (.dT kvs)):zho K H (.ref a) (.type "dict")
  | ins {a C dx:Addr}{fs:List (Str×V)} (e:H a=some (.ins C dx fs)) (cl:Cls K C) (ha:PySem.W.findIn K (.ref C) "__class__"=some (some (.builtin "object.__class__")))
      (hn:PySem.W.specialIn K (.builtin "object.__class__") "__get__"=some (some (.builtin "getset_descriptor.__get__"))) (htk:PySem.W.takesIn K (.builtin "object.__class__")=some true)
      (hm:PySem.W.mroIn K C (.type "object")=some true):zho K H (.ref a) (.ref C)
theorem zik {x:V}{u t:Value} (I:Inv X pins σ H s) (rx:RelV x u) (ty:zho X.K H x t) (e:PySem.W.kitOne X.K t c=some b) (h:∀ tk,Q (.bool b) {s with toks:=tk}) :
    wpAny (model X.prog X.w) A (call (.builtin "isinstance") [u,c]) Q E s:=by
  cases ty with
  | non=>cases (show u=Value.none from rx);exact PySem.W.kia_one PySem.W.kitx_none I.kIn True.intro e (fun z=>nomatch z) h
  | bl y=>cases (show u=Value.bool y from rx);exact PySem.W.kia_one PySem.W.kitx_bool I.kIn True.intro e (fun z=>nomatch z) h
  | int i=>obtain ⟨t,q⟩:=(show ∃ t,u=Value.int i t from rx);cases q;exact PySem.W.kia_one PySem.W.kitx_int I.kIn True.intro e (fun z=>nomatch z) h
  | str y=>obtain ⟨t,q⟩:=(show ∃ t,u=Value.str y t from rx);cases q;exact PySem.W.kia_one PySem.W.kitx_str I.kIn True.intro e (fun z=>nomatch z) h
  | flt y=>obtain ⟨t,q⟩:=(show ∃ t,u=Value.float y t from rx);cases q;exact PySem.W.kia_one PySem.W.kitx_float I.kIn True.intro e (fun z=>nomatch z) h
  | @lst a xs ea =>
    cases (show u=Value.ref a from rx)
    obtain ⟨_,_,n,_,h1⟩:=(show zdm X.prog X.w H s.heap a (.lst xs) from I.hok a _ ea)
    exact PySem.W.kia_one PySem.W.kitx_list I.kIn ⟨_,h1,rfl⟩ e (fun z=>nomatch z) h
  | @frz a ob xs ea =>
    cases (show u=Value.ref a from rx)
    obtain ⟨_,_,_,n,_,h1⟩:=(show zdm X.prog X.w H s.heap a (.frz ob (.lst xs)) from I.hok a _ ea)
    exact PySem.W.kia_one PySem.W.kitx_list I.kIn ⟨_,h1,rfl⟩ e (fun z=>nomatch z) h
  | @tup a xs ea =>
    cases (show u=Value.ref a from rx)
    obtain ⟨_,_,_,p⟩:=(show zdm X.prog X.w H s.heap a (.tup xs) from I.hok a _ ea)
    obtain ⟨o,h1,h2,_⟩:=p
    exact PySem.W.kia_one PySem.W.kitx_tuple I.kIn ⟨o,h1,h2⟩ e (fun z=>nomatch z) h
  | @dK a kvs ea =>
    cases (show u=Value.ref a from rx)
    obtain ⟨_,_,vs,_,p⟩:=(show zdm X.prog X.w H s.heap a (.dK kvs) from I.hok a _ ea)
    obtain ⟨o,es,ep,h1,h2,_⟩:=p
    exact PySem.W.kia_one PySem.W.kitx_dict I.kIn ⟨o,h1,h2.1⟩ e (fun z=>nomatch z) h
  | @dT a kvs ea =>
    cases (show u=Value.ref a from rx)
    obtain ⟨_,_,xs,_,o,es,ep,h1,h2,_⟩:=(show zdm X.prog X.w H s.heap a (.dT kvs) from I.hok a _ ea)
    exact PySem.W.kia_one PySem.W.kitx_dict I.kIn ⟨o,h1,h2.1⟩ e (fun z=>nomatch z) h
  | @ins a C dx fs ea cl ha hn htk hm =>
    cases (show u=Value.ref a from rx)
    obtain ⟨mA,O,_⟩:=z1s I.hok ea
    obtain ⟨od,J,_⟩:=O.look
    exact PySem.W.kia_one (PySem.W.kitx_own (cl.get _) cl.hd ha hn htk hm) I.kIn J e (fun z=>nomatch z) h
end
end L2
namespace L2
open PySem PySem.Spec PyProof.Rows
structure zbj (k:Nat) (A:Around):Prop where
  hd:A.handled=none
  dp:A.depth+3 * k+5 < recursionLimit
  un:A.units+16 * k+200 < cLine
theorem zbj.mono {j k:Nat}{A:Around} (r:zbj k A) (h:j≤k):zbj j A:=⟨r.hd,by have:=r.dp;omega,by have:=r.un;omega⟩
theorem zbj.deeper {k:Nat}{A:Around} (r:zbj (k+1) A) (env:Env):zbj k (A.deeper env):=
  ⟨r.hd,by have:=r.dp;show A.depth+1+3 * k+5 < _;omega,by have:=r.un;show A.units+3+16 * k+200 < _;omega⟩
theorem zbj.in1 {k:Nat}{A:Around} (r:zbj (k+1) A):zbj k A.in1:=
  ⟨r.hd,by have:=r.dp;show A.depth+3 * k+5 < _;omega,by have:=r.un;show A.units+1+16 * k+200 < _;omega⟩
theorem zbj.depth {k:Nat}{A:Around} (r:zbj k A):A.depth < recursionLimit:=by have:=r.dp;omega
theorem zbj.units {k:Nat}{A:Around} (r:zbj k A):A.units+64 < cLine:=by have:=r.un;omega
def tNil:TA:=fun _ H Q=>Q [] H
def tCons (ta:TE) (tr:TA):TA:=fun σ H Q=>ta σ H fun x H1=>tr σ H1 fun xs H2=>Q (x::xs) H2
section
variable {X:Cx}{e:Expr}{es:List Expr}{te:TE}{t:TA}{pos:Pos}
theorem zfm:PA X [] tNil:=fun _ _ _ _ H Q I h=>Calls.spliced_nil ⟨[],H,I,.nil,h⟩
theorem zdb (ha:PE X e te) (hr:PA X es t) (hs:starEach (e::es) X.env=(false,eval e X.env)::starEach es X.env:=by rfl):PA X (e::es) (tCons te t):=by
  intro pos pins s σ H Q I h
  rw [hs]
  show wpAny _ _ (spliced ((false,eval e X.env)::backTo pos (starEach es X.env))) _ _ s
  refine Calls.spliced_cons (thn (ha pins s σ H _ I h) fun u s1 ⟨x,H1,I1,r1,q1⟩=>?_)
  exact thn (hr pos pins s1 σ H1 _ I1 q1) fun us s2 ⟨xs,H2,I2,r2,q2⟩=>⟨x::xs,H2,I2,.cons r1 r2,q2⟩
def tTup (t:TA):TE:=fun σ H Q=>t σ H fun xs H1=>xs.length≤sizeLine /\ ∀ p,H1 p=none->Q (.ref p) (upd H1 p (.tup xs))
def tLst (t:TA):TE:=fun σ H Q=>t σ H fun xs H1=>xs.length≤sizeLine /\ ∀ p,H1 p=none->Q (.ref p) (upd H1 p (.lst xs))
theorem pe_tup {x1} (h:PA X es t):PE X (.Tuple es x1 pos) (tTup t):=by
  intro pins s σ H Q I hq
  refine wpAny_Tuple_spliced (thn (h pos pins s σ H _ I hq) fun us s1 ⟨xs,H1,I1,r,z,q⟩=>⟨by rw [<- r.length];exact z,?_⟩)
  have hf:H1 s1.heap.objs.size=none:=I1.hok.fresh (Nat.le_refl _)
  refine ⟨.ref s1.heap.objs.size,upd H1 s1.heap.objs.size (.tup xs),I1.laid (t':=s1.toks) (fun b u e=>Heap.get?_push_of_some _ e) (Nat.le_refl _) ?_,rfl,q _ hf⟩
  exact ⟨z,us,r,⟨_,Heap.get?_push_size _ rfl,rfl,_,rfl⟩⟩
theorem pe_lst (h:PA X es t):PE X (.List es pos) (tLst t):=by
  intro pins s σ H Q I hq
  refine wpAny_List_spliced (thn (h pos pins s σ H _ I hq) fun us s1 ⟨xs,H1,I1,r,z,q⟩=>⟨by rw [<- r.length];exact z,?_⟩)
  have hf:H1 s1.heap.objs.size=none:=I1.hok.fresh (Nat.le_refl _)
  refine ⟨.ref s1.heap.objs.size,upd H1 s1.heap.objs.size (.lst xs),I1.laid (t':=s1.toks) (fun b u e=>Heap.get?_push_of_some _ e) (Nat.le_refl _) ?_,rfl,q _ hf⟩
  exact ⟨z,us,0,r,Heap.get?_push_size _ rfl⟩
end
abbrev Sp:=List V->Hp->VK->XK->Prop
abbrev CXT:=List Env->Hp->Shared->XK->Value->Shared->Prop
structure zlm (P:Program) (w:World) (K:PySem.W.Frag) (mg:Str->Option Value) (base:Heap) (A:Around) (outer:List Env) (s:Shared) (H:Hp):Prop where
  frames:A.frames=some outer
  mod:Mod K mg base
  bs:∀ b o,base.get? b=some o->s.heap.get? b=some o /\ H b=none
  bsz:base.objs.size≤s.heap.objs.size
  funs:s.heap.FunFrames base outer
  frf:∀ b∈frs outer,H b=none
  hok:HOk P w H s.heap
  bare:AllBare s.gens
def CE (outer:List Env) (P:Program) (w:World) (H:Hp) (s:Shared) (Q:VK) (u:Value) (s':Shared):Prop:=
  ∃ v H',s'.os=s.os /\ AllBare s'.gens /\ Un (frs outer) [] H H' s.heap s'.heap /\ HOk P w H' s'.heap /\ RelV v u /\ Q v H'
def CR (CX:CXT) (outer:List Env) (P:Program) (w:World) (H:Hp) (s:Shared) (Q:VK) (E:XK) (r:Result) (s':Shared):Prop:=
  match r with
  | .ok (.ret u)=>CE outer P w H s Q u s'
  | .ok _=>False
  | .error e=>CX outer H s E e s'
structure zgi (P:Program) (w:World) (K:PySem.W.Frag) (mg:Str->Option Value) (base:Heap) (CX:CXT) (k:Nat) (f:Addr) (fd:FuncData) (ps:List Str) (sp:Sp):Prop where
  len:∀ vs H Q E,sp vs H Q E->vs.length=ps.length
  run:∀ (A:Around) (outer:List Env) (s:Shared) (H:Hp) (args:Args) (us:List Value) (vs:List V) (Q:VK) (E:XK),zbj k A->zlm P w K mg base A outer s H->BindsTo s fd args (ps.zip us)->Vals vs us->sp vs H Q E->
    codeAny (model P w) A (.call (.ref f) args) (CR CX outer P w H s Q E) s
theorem zgi.mono {P:Program}{w:World}{K:PySem.W.Frag}{mg:Str->Option Value}{base:Heap}{CX:CXT}{j k:Nat}{f:Addr}{fd:FuncData}{ps:List Str}{sp:Sp} (F:zgi P w K mg base CX j f fd ps sp) (h:j≤k) :
    zgi P w K mg base CX k f fd ps sp:=⟨F.len,fun A outer s H args us vs Q E hr=>F.run A outer s H args us vs Q E (hr.mono h)⟩
theorem zgi.imp {P:Program}{w:World}{K:PySem.W.Frag}{mg:Str->Option Value}{base:Heap}{CX:CXT}{k:Nat}{f:Addr}{fd:FuncData}{ps:List Str}{sp sp':Sp} (F:zgi P w K mg base CX k f fd ps sp)
    (h:∀ vs H Q E,sp' vs H Q E->sp vs H Q E):zgi P w K mg base CX k f fd ps sp':=
  ⟨fun vs H Q E q=>F.len vs H Q E (h _ _ _ _ q),fun A outer s H args us vs Q E hr he hb hv hs=>F.run A outer s H args us vs Q E hr he hb hv (h _ _ _ _ hs)⟩
theorem zlm.in1 {P:Program}{w:World}{K:PySem.W.Frag}{mg:Str->Option Value}{base:Heap}{A:Around}{outer:List Env}{s:Shared}{H:Hp} (e:zlm P w K mg base A outer s H) :
    zlm P w K mg base A.in1 outer s H:=⟨e.frames,e.mod,e.bs,e.bsz,e.funs,e.frf,e.hok,e.bare⟩
section
variable {X:Cx}{pins:List (Addr×Obj)}{σ:St}{H:Hp}{s s':Shared}
theorem Inv.env0 (I:Inv X pins σ H s):zlm X.prog X.w X.K X.mg X.base X.A X.stack s H:=
  ⟨I.ok.frames,I.ok.mod,I.bs,Nat.le_trans I.ok.bsz I.sz,I.stack,I.stkFree,I.hok,I.bare⟩
theorem Inv.after {Q:VK}{u:Value} (I:Inv X pins σ H s) (h:CE X.stack X.prog X.w H s Q u s'):EP X pins σ Q u s':=by
  obtain ⟨v,H',os,bare,un,hok,r,q⟩:=h
  obtain ⟨hh,g,d,t,os'⟩:=s'
  obtain rfl:os'=s.os:=os
  exact ⟨v,H',I.call (h':=hh) (g':=g) (d':=d) (t':=t) (ch:=[]) un hok bare (fun b z=>absurd z (by simp)),r,q⟩
end
def tCall (sp:Sp) (dvs:List V) (E:XK) (t:TA):TE:=fun σ H Q=>t σ H fun vs H1=>sp (vs++dvs) H1 Q E
def Binds (K:PySem.W.Frag) (fd:FuncData) (ps:List Str) (ds:List Value):Prop:=
  ∀ (s:Shared) (us:List Value),K.In s.heap->(us++ds).length=ps.length->BindsTo s fd ⟨us,[]⟩ (ps.zip (us++ds))
theorem Binds.all {K:PySem.W.Frag}{fd:FuncData}{ps:List Str} (h:∀ us:List Value,us.length=ps.length->bindArgs fd ⟨us,[]⟩=pure (ps.zip us)):Binds K fd ps []:=fun s us _ hl=>by
  rw [List.append_nil] at hl ⊢
  exact .of_eq (h us hl)
def Passes (CX:CXT) (X:Cx) (E:XK):Prop:=∀ (pins:List (Addr×Obj)) (σ:St) (H:Hp) (s:Shared) (e:Value) (s':Shared),Inv X pins σ H s->CX X.stack H s E e s'->X.xe e s'
section
variable {X:Cx}{CX:CXT}{k:Nat}{f C:Addr}{fd:FuncData}{ps:List Str}{sp:Sp}{dvs:List V}{ds:List Value}{E:XK}{x m:Str}{p pos apos:Pos}{e o:Expr}{es:List Expr}{ta:TE}{t:TA}
theorem zvd {pins:List (Addr×Obj)}{σ:St}{H:Hp}{s:Shared}{Q:VK}{us:List Value}{vs:List V} (F:zgi X.prog X.w X.K X.mg X.base CX k f fd ps sp) (hr:zbj k X.A) (hb:Binds X.K fd ps ds) (hd:Vals dvs ds) (hx:Passes CX X E)
    (I:Inv X pins σ H s) (r:Vals vs us) (h:sp (vs++dvs) H Q E):wpAny (model X.prog X.w) X.A (call (.ref f) us) (EP X pins σ Q) X.xe s:=by
  have r2:Vals (vs++dvs) (us++ds):=r.append hd
  have hl:(us++ds).length=ps.length:=by rw [<- r2.length];exact F.len _ _ _ _ h
  refine wpAny_call (codeAny_mono (F.run X.A X.stack s H ⟨us,[]⟩ (us++ds) (vs++dvs) Q E hr I.env0 (hb s us I.kIn hl) r2 h) fun r s' hq=>?_)
  cases r with
  | error e=>exact hx pins σ H s e s' I hq
  | ok fl =>
    cases fl with
    | ret u=>exact I.after hq
    | next=>exact False.elim hq
    | brk=>exact False.elim hq
    | cont=>exact False.elim hq
theorem z1c (F:zgi X.prog X.w X.K X.mg X.base CX k f fd ps sp) (hr:zbj k X.A) (hg:Gl X x) (hm:X.mg x=some (.ref f)) (hk:PySem.W.keepIn X.K (.ref f)=true) (hb:Binds X.K fd ps ds) (hd:Vals dvs ds) (hx:Passes CX X E)
    (ha:PA X (e::es) t) (hdb:(x==("__debug__":Str))=false:=by decide) (he:starEach (e::es) X.env=(false,eval e X.env)::starEach es X.env:=by rfl) (hpl:(backTo pos (starEach es X.env)).any (·.1)=false:=by rfl) :
    PE X (.Call (.Name x p) (e::es) [] pos) (tCall sp dvs E t):=by
  intro pins s σ H Q I h
  refine wpAny_Call_Name_kw (zja I hg hm ?_ hdb)
  refine PySem.W.callWith_K (h₀:=X.base) I.ok.mod.kin hk (thn (ha pos pins s σ H _ I h) fun us s1 ⟨vs,H1,I1,r,q⟩=>⟨I1.kIn,?_⟩) he hpl
  exact zvd F hr hb hd hx I1 r q
end
section
variable {X:Cx}{CX:CXT}{k:Nat}{f C:Addr}{fd:FuncData}{ps ks:List Str}{sp:Sp}{E:XK}{x m:Str}{p pos apos kpos:Pos}{e o:Expr}{es:List Expr}{kws:List Keyword}{te ta:TE}{t tk:TA}{nm:Option Str}
variable {g:List Value->List Value->List Value}{gV:List V->List V->List V}
end
structure zbd (N P:List Str) (sc:Scope):Prop where
  kind:sc.kind=.function
  co:sc.isCoroutine=false
  gen:sc.isGenerator=false
  nd:N.Nodup
  pre:N.take P.length=P
  par:∀ x∈P,sc.names.lookup x=some .local \/ sc.names.lookup x=some .cell
  nofree:∀ y∈sc.names,y.2≠.free
theorem zom {kindOf:Str->Option NameKind}{x:Str}:∀ {binds:List (Str×Value)}{m:Str->Option Value},(∀ v,(x,v)∉binds)->bindL kindOf binds m x=m x
  | [],_,_=>rfl
  | (n, v) :: r, m, h => by
    unfold bindL
    rw [zom fun w hw=>h w (List.mem_cons_of_mem _ hw)]
    split
    · have:x≠n:=by rintro rfl;exact h v List.mem_cons_self
      simp [this]
    · rfl
theorem zoo {kindOf:Str->Option NameKind}{x:Str}:∀ {binds:List (Str×Value)}{m:Str->Option Value},(∀ v,(x,v)∉binds)->bindC kindOf binds m x=m x
  | [],_,_=>rfl
  | (n, v) :: r, m, h => by
    unfold bindC
    rw [zoo fun w hw=>h w (List.mem_cons_of_mem _ hw)]
    split
    · rfl
    · have:x≠n:=by rintro rfl;exact h v List.mem_cons_self
      simp [this]
theorem zon {kindOf:Str->Option NameKind}{x:Str}{v:Value}:∀ {P:List Str}{vs:List Value}{i:Nat}{m:Str->Option Value},P.Nodup->P[i]?=some x->vs[i]?=some v->kindOf x=some .local->
    bindL kindOf (P.zip vs) m x=some v
  | [],_,_,_,_,h,_,_=>by simp at h
  | _::_,[],_,_,_,_,h,_=>by simp at h
  | p :: P, w :: vs, 0, m, nd, h1, h2, hk => by
    simp at h1 h2;subst h1;subst h2
    show bindL kindOf ((p,w)::P.zip vs) m p=_
    unfold bindL
    rw [zom fun v hv=>(List.nodup_cons.mp nd).1 (List.of_mem_zip hv).1,if_pos hk]
    simp
  | p :: P, w :: vs, i + 1, m, nd, h1, h2, hk => by
    show bindL kindOf ((p,w)::P.zip vs) m x=_
    unfold bindL
    exact zon (i:=i) (List.nodup_cons.mp nd).2 (by simpa using h1) (by simpa using h2) hk
theorem zop {kindOf:Str->Option NameKind}{x:Str}{v:Value}:∀ {P:List Str}{vs:List Value}{i:Nat}{m:Str->Option Value},P.Nodup->P[i]?=some x->vs[i]?=some v->kindOf x≠some .local->
    bindC kindOf (P.zip vs) m x=some v
  | [],_,_,_,_,h,_,_=>by simp at h
  | _::_,[],_,_,_,_,h,_=>by simp at h
  | p :: P, w :: vs, 0, m, nd, h1, h2, hk => by
    simp at h1 h2;subst h1;subst h2
    show bindC kindOf ((p,w)::P.zip vs) m p=_
    unfold bindC
    rw [zoo fun v hv=>(List.nodup_cons.mp nd).1 (List.of_mem_zip hv).1,if_neg hk]
    simp
  | p :: P, w :: vs, i + 1, m, nd, h1, h2, hk => by
    show bindC kindOf ((p,w)::P.zip vs) m x=_
    unfold bindC
    exact zop (i:=i) (List.nodup_cons.mp nd).2 (by simpa using h1) (by simpa using h2) hk
def start (N:List Str) (vs:List V):St:=vs.map some++List.replicate (N.length - vs.length) none
def zb0 (CX:CXT) (P:Program) (w:World) (K:PySem.W.Frag) (mg:Str->Option Value) (base:Heap) (N:List Str) (qual:Str) (scope:Scope) (f:Addr) (cd:Value) (A:Around) (outer:List Env) (s:Shared) (H:Hp) (E:XK):Cx where
  prog:=P
  w:=w
  K:=K
  mg:=mg
  base:=base
  A:=A.deeper (envOfC qual scope s.heap.objs.size f cd)
  N:=N
  s₀:=s
  H₀:=H
  env:=envOfC qual scope s.heap.objs.size f cd
  outer:=outer
  stack:=envOfC qual scope s.heap.objs.size f cd::outer
  ex:=[]
  calm:=true
  fn:=fun _=>true
  pn:=[]
  xe:=fun e s'=>wpAny (model P w) (A.deeper (envOfC qual scope s.heap.objs.size f cd)) (leaving (envOfC qual scope s.heap.objs.size f cd) e) (fun _ s''=>CX outer H s E e s'') (fun e' s''=>CX outer H s E e' s'') s'
theorem zra {sc:Scope}{n:Nat}{x:Str} (h:sc.names.lookup x=some .cell):∃ c,(cellsFrom n sc.names []).lookup x=some c:=by
  have q:=PySem.W.cellsFrom_some sc.names n [] (.inl h)
  exact Option.isSome_iff_exists.mp q
theorem zwa {CX:CXT}{P:Program}{w:World}{K:PySem.W.Frag}{mg:Str->Option Value}{base:Heap}{N ps:List Str}{qual:Str}{scope:Scope}{f:Addr}{cd:Value}{A:Around}{outer:List Env}{s s1:Shared}{H:Hp}{E:XK}{us:List Value}{vs:List V}
    (S:zbd N ps scope) (hd:A.handled=none) (e0:zlm P w K mg base A outer s H) (hl:vs.length=ps.length) (r:Vals vs us)
    (x:InCallC s s.heap.objs.size (bindL (envOfC qual scope s.heap.objs.size f cd).kindOf (ps.zip us) fun _=>none) (cellsFrom (s.heap.objs.size+1) scope.names []) (bindC (envOfC qual scope s.heap.objs.size f cd).kindOf (ps.zip us) fun _=>none) s1) :
    Inv (zb0 CX P w K mg base N qual scope f cd A outer s H E) [] (start N vs) H s1:=by
  have hpl:ps.length≤N.length:=by have:=congrArg List.length S.pre;rw [List.length_take] at this;omega
  obtain ⟨h1,tk,rfl,hk⟩:=x.done
  have noA:∀ b:Addr,b∉(zb0 CX P w K mg base N qual scope f cd A outer s H E).ex:=fun b z=>absurd (show b∈([]:List Addr) from z) (by simp)
  refine ⟨⟨e0.mod,S.kind,rfl,rfl,Nat.le_refl _,fun y z c h1 h2=>?_,fun y hy=>?_,fun y c _ h=>?_,fun _=>hd,Around.frames_deeper e0.frames,.inr ⟨rfl,rfl⟩,fun b z=>absurd z (noA b),e0.bs,e0.bsz,fun b _ _=>noA b,fun b z=>absurd z (noA b),e0.funs,e0.frf⟩,
    rfl,e0.bare,Un.kept hk,⟨_,x.toInCall.ns,fun i y v h1 h2 h3=>?_⟩,fun y c h=>⟨_,x.cell y c h⟩,e0.hok.fresh (Nat.le_refl _),fun y c h=>?_,fun p hp=>absurd (show p∈([]:List (Addr×Obj)) from hp) (by simp),e0.hok.kept hk,?_⟩
  · exact name_of_addr x.apart (PySem.mem_of_lookup h1) (PySem.mem_of_lookup h2)
  · have hy:scope.names.lookup y=some .cell \/ scope.names.lookup y=some .free:=hy
    rcases hy with hy | hy
    · exact zra hy
    · exact absurd rfl (S.nofree _ (PySem.mem_of_lookup hy))
  · exact Nat.le_of_lt (x.above y c (PySem.mem_of_lookup h))
  · have hi:i < vs.length:=by
      unfold start at h2
      by_cases hi:i < vs.length
      · exact hi
      · rw [List.getElem?_append_right (by simpa using hi)] at h2
        rw [List.getElem?_replicate] at h2
        split at h2<;>cases h2
    have ha:vs[i]?=some v:=by
      unfold start at h2
      rw [List.getElem?_append_left (by simpa using hi),List.getElem?_map] at h2
      cases e:vs[i]? with
      | none=>rw [e] at h2;cases h2
      | some a=>rw [e] at h2;cases h2;rfl
    obtain ⟨u,hu,rv⟩:=r.get ha
    have hp:ps[i]?=some y:=by
      rw [<- S.pre,List.getElem?_take_of_lt (by omega)];exact h1
    have ndP:ps.Nodup:=by rw [<- S.pre];exact S.nd.sublist (List.take_sublist _ _)
    refine ⟨u,rv,?_⟩
    rcases S.par y (List.mem_of_getElem? hp) with k | k
    · exact .inl ⟨k,zon ndP hp hu k⟩
    · obtain ⟨c,e⟩:=zra (n:=s.heap.objs.size+1) k
      refine .inr ⟨.inl k,c,e,?_⟩
      have q:=x.cell y c e
      rw [zop ndP hp hu (by show scope.names.lookup y≠_;rw [k];decide)] at q
      exact q
  · exact e0.hok.fresh (Nat.le_of_lt (x.above y c (PySem.mem_of_lookup h)))
  · unfold start
    show _=N.length
    rw [List.length_append,List.length_map,List.length_replicate]
    omega
theorem fn_of {CX:CXT}{P:Program}{w:World}{K:PySem.W.Frag}{mg:Str->Option Value}{base:Heap}{k:Nat}{f:Addr}{name qual:Str}{params:Arguments}{body:List Stmt}{scope:Scope}{dV kV doc pm cdv ct oc:Value}{an od:Option Addr}
    {osl:Array (Option Value)}{N ps:List Str}{sp:Sp} (lk:K.lookup f=some ⟨oc,od,.func (PySem.W.fnOf name qual params body scope dV kV doc pm an cdv ct),osl⟩) (hcd:PySem.W.codeIn K cdv qual=true) (S:zbd N ps scope)
    (len:∀ vs H Q E,sp vs H Q E->vs.length=ps.length)
    (hbody:∀ (A:Around) (outer:List Env) (s:Shared) (H:Hp) (vs:List V) (Q:VK) (E:XK),zbj k (A.deeper (envOfC qual scope s.heap.objs.size f cdv))->sp vs H Q E->
      ∃ t,PSs (zb0 CX P w K mg base N qual scope f cdv A outer s H E) body t /\ t {nx:=fun _ H'=>Q .non H',rt:=Q} (start N vs) H) :
    zgi P w K mg base CX (k+1) f (PySem.W.fnOf name qual params body scope dV kV doc pm an cdv ct) ps sp:=by
  refine ⟨len,fun A outer s H args us vs Q E hr e0 hb r hsp=>?_⟩
  have hl:=len _ _ _ _ hsp
  have KX:K.In s.heap:=e0.mod.kin.keeps fun b o e=>(e0.bs b o e).1
  have lim:s.heap.NoLimit:=e0.mod.nolimit.keeps fun b o e=>(e0.bs b o e).1
  have hkind:∀ y∈ps.zip us,scope.names.lookup y.1=some .local \/ (scope.names.lookup y.1=some .cell /\ ((cellsFrom (s.heap.objs.size+1) scope.names []).lookup y.1).isSome=true):=fun ⟨n,v⟩ hy=>by
    rcases S.par n (List.of_mem_zip hy).1 with q | q
    · exact .inl q
    · exact .inr ⟨q,PySem.W.cellsFrom_some _ _ _ (.inl q)⟩
  refine codeAny_call_function hr.depth (KX _ _ lk) rfl S.co S.gen rfl (PySem.W.codeRec_of KX hcd) (hb _ _ _ _ ?_)
  refine wpAny_newFunctionEnv_cells S.kind hkind fun env he s1 x=>?_
  subst he
  refine ⟨lim.keeps x.toInCall.keep,codeAny_func ?_⟩
  obtain ⟨t,ht,hq⟩:=hbody A outer s H vs Q E (hr.deeper _) hsp
  have I:Inv (zb0 CX P w K mg base N qual scope f cdv A outer s H E) [] (start N vs) H s1:=zwa S hr.hd e0 hl r x
  refine wpAny_mono (ht [] s1 (start N vs) H _ I hq) (fun fl s' hs=>?_) fun e s' hs=>hs
  have fin:∀ {σ':St}{H':Hp}{v:V}{u:Value},Inv (zb0 CX P w K mg base N qual scope f cdv A outer s H E) [] σ' H' s'->RelV v u->Q v H'->CE outer P w H s Q u s':=
    fun {σ' H' v u} J rv q=>⟨v,H',J.os,J.bare,J.base,J.hok,rv,q⟩
  cases fl with
  | ret u =>
    obtain ⟨v,σ',H',J,rv,q⟩:=hs
    exact fin J rv q
  | next =>
    obtain ⟨σ',H',J,q⟩:=hs
    exact fin (v:=V.non) (u:=Value.none) J rfl q
  | brk =>
    obtain ⟨_,_,_,q⟩:=hs
    exact False.elim q
  | cont =>
    obtain ⟨_,_,_,q⟩:=hs
    exact False.elim q
end L2
namespace L2
open PySem PySem.Spec PyProof.Rows
section
variable {X:Cx}{x:Str}{p pos:Pos}{e:Expr}{es:List Expr}{t:TA}{id T:String}{r:List V->Hp->VK->Prop}
def tCB (r:List V->Hp->VK->Prop) (t:TA):TE:=fun σ H Q=>t σ H fun vs H1=>r vs H1 Q
theorem zic (hc:zdn X (.builtin id) r) (hg:Gl X x) (hm:X.mg x=none) (hv:bootBuiltins x=some (.builtin id)) (ha:PA X (e::es) t) (hn:x≠"__name__":=by decide) (hdb:(x==("__debug__":Str))=false:=by decide)
    (he:starEach (e::es) X.env=(false,eval e X.env)::starEach es X.env:=by rfl) (hpl:(backTo pos (starEach es X.env)).any (·.1)=false:=by rfl):PE X (.Call (.Name x p) (e::es) [] pos) (tCB r t):=by
  intro pins s σ H Q I h
  refine wpAny_Call_Name_kw (zhg I hg hm hv ?_ hn hdb)
  exact PyProof.Rows.callWith_builtin1 (thn (ha pos pins s σ H _ I h) fun us s1 ⟨vs,H1,I1,r1,q1⟩=>hc pins s1 σ H1 vs us Q I1 r1 q1) he hpl
theorem zvk (hc:zdn X (.type T) r) (hg:Gl X x) (hm:X.mg x=none) (hv:bootBuiltins x=some (.type T)) (ha:PA X (e::es) t) (hn:x≠"__name__":=by decide) (hdb:(x==("__debug__":Str))=false:=by decide)
    (he:starEach (e::es) X.env=(false,eval e X.env)::starEach es X.env:=by rfl) (hpl:(backTo pos (starEach es X.env)).any (·.1)=false:=by rfl):PE X (.Call (.Name x p) (e::es) [] pos) (tCB r t):=by
  intro pins s σ H Q I h
  refine wpAny_Call_Name_kw (zhg I hg hm hv ?_ hn hdb)
  exact PyProof.Rows.callWith_type1 (thn (ha pos pins s σ H _ I h) fun us s1 ⟨vs,H1,I1,r1,q1⟩=>hc pins s1 σ H1 vs us Q I1 r1 q1) he hpl
end
end L2
namespace HT
open PySem PyProof.Rows
section
open PySem.SeqAt
open PySem.AutoSeq1 (wpAny_loadPart')
open PySem.MeetsSeq PySem.MeetsSeq2 PySem.MeetsSeq3
end
section
variable {prog:Program}{w:World}{A:Around}{E:Value->Shared->Prop}{s:Shared}
theorem z2g {t b:Addr}{vs ws:List Value}{Q:Value->Shared->Prop} (ht:IsTup s.heap t vs.toArray) (hb:IsTup s.heap b ws.toArray) (hv:vs≠[])
    (h1:ws=[]->Q (.ref t) s) (h2:ws≠[]->Q (.ref s.heap.objs.size) {s with heap:=s.heap.push {cls:=.type "tuple",data:=.seq (vs++ws).toArray}})
    (hsz:vs.length+ws.length≤sizeLine):wpAny (model prog w) A (binaryOp .Add (.ref t) (.ref b)) Q E s:=by
  obtain ⟨⟨cls,dd,data,sl⟩,ho,hc,n,hd⟩:=id ht
  obtain ⟨⟨cls2,dd2,data2,sl2⟩,ho2,hc2,n2,hd2⟩:=id hb
  simp only at hc hd hc2 hd2
  subst hc hd hc2 hd2
  have e:vs.toArray++ws.toArray=(vs++ws).toArray:=by simp
  by_cases hw:ws=[]
  · exact concat_meets ⟨_,ho,rfl⟩ ⟨_,ho2,rfl⟩ noFill_tuple_add seq_tuple_add PySem.F.slot_tuple_add PySem.F.entry_tuple_add (PySem.F.args_tuple_add_2 _ _)
      (tuple_addW1 t b vs.toArray ws.toArray n n2 dd dd2 sl sl2 (by simpa using hv) (by simp [hw])) ⟨ho,ho2,h1 hw⟩
  · refine concat_meets ⟨_,ho,rfl⟩ ⟨_,ho2,rfl⟩ noFill_tuple_add seq_tuple_add PySem.F.slot_tuple_add PySem.F.entry_tuple_add (PySem.F.args_tuple_add_2 _ _)
      (tuple_addW2 t b vs.toArray ws.toArray n n2 dd dd2 sl sl2 (by simpa using hv) (by simpa using hw) (by rw [List.size_toArray,List.size_toArray];exact hsz)) ⟨ho,ho2,?_⟩
    rw [e]
    exact h2 hw
def sIx (n d:Nat):Option Int->Nat
  | none=>d
  | some v=>if v < 0 then (v+(n:Int)).toNat else min v.toNat n
theorem sIx_le (n d:Nat) (hd:d≤n) (o:Option Int):sIx n d o≤n:=by
  cases o with
  | none=>exact hd
  | some v =>
    show (if v < 0 then (v+(n:Int)).toNat else min v.toNat n)≤n
    by_cases hv:v < 0
    · rw [if_pos hv];omega
    · rw [if_neg hv];exact Nat.min_le_right _ _
theorem zsu (v:Int) (n d:Nat):(if v < 0 then max (v+(n:Int)) 0 else min v (n:Int))=((sIx n d (some v):Nat):Int):=by
  show (if v < 0 then max (v+(n:Int)) 0 else min v (n:Int))=(((if v < 0 then (v+(n:Int)).toNat else min v.toNat n):Nat):Int)
  by_cases hv:v < 0
  · simp only [if_pos hv];omega
  · simp only [if_neg hv];omega
theorem zud (lo hi:Option Int) (n:Nat):Builtin.Slice.sliceAdjust lo hi 1 (n:Int)=(((sIx n 0 lo:Nat):Int),((sIx n n hi:Nat):Int)):=by
  have h1:¬ ((1:Int) < 0):=by omega
  unfold Builtin.Slice.sliceAdjust
  simp only [h1,if_false]
  refine Prod.ext ?_ ?_
  · cases lo with
    | none=>rfl
    | some v=>exact zsu v n 0
  · cases hi with
    | none=>rfl
    | some v=>exact zsu v n n
theorem ztb (i j:Nat):Builtin.Slice.slicePlaces (i:Int) (j:Int) 1=j - i:=by
  unfold Builtin.Slice.slicePlaces
  have h1:(1:Int) > 0:=by omega
  simp only [h1,if_true,Int.ediv_one]
  split<;>omega
theorem zlv {v:Value}{o:Option Int}{Q:Option Int->Shared->Prop} (p:IsPart v o) (h:Q o s):wpAny (model prog w) A (Builtin.Slice.slicePartIndex v) Q E s:=by
  cases p with
  | none=>exact slicePart_none h
  | int i t=>exact slicePart_int h
theorem zh8 {sl:Addr}{vl vu:Value}{lo hi:Option Int}{n:Nat}{Q:Int×Int×Nat->Shared->Prop} (hs:s.heap.IsSliceOf sl vl vu .none) (pl:IsPart vl lo) (pu:IsPart vu hi)
    (h:Q (((sIx n 0 lo:Nat):Int),1,sIx n n hi - sIx n 0 lo) s):wpAny (model prog w) A (Builtin.Slice.sliceApplied (.ref sl) (pure (n:Int))) Q E s:=by
  obtain ⟨os,hos,hcs,hds⟩:=id hs
  unfold Builtin.Slice.sliceApplied Builtin.Slice.sliceFields
  refine wpAny_bind (wpAny_bind (wpAny_field hos hds (x:=vl) rfl (wpAny_bind (wpAny_field hos hds (x:=vu) rfl (wpAny_bind (wpAny_field hos hds (x:=.none) rfl (wpAny_pure ?_)))))))
  refine wpAny_bind (slicePart_none ?_)
  show wpAny _ _ (if ((1:Int)==0)=true then _ else _) _ _ s
  rw [if_neg (by decide)]
  refine wpAny_bind (zlv pl (wpAny_bind (zlv pu (wpAny_bind (wpAny_pure ?_)))))
  show wpAny _ _ (match Builtin.Slice.sliceAdjust lo hi 1 (n:Int) with | (lo,hi)=>pure (lo,(1:Int),Builtin.Slice.slicePlaces lo hi 1)) _ _ s
  rw [zud lo hi n]
  show wpAny _ _ (pure (((sIx n 0 lo:Nat):Int),(1:Int),Builtin.Slice.slicePlaces ((sIx n 0 lo:Nat):Int) ((sIx n n hi:Nat):Int) 1)) _ _ s
  rw [ztb]
  exact wpAny_pure h
theorem zx4 (xs:Array Value) (i k:Nat):((List.range k).filterMap fun (m:Nat)=>xs[((i:Int)+(m:Int) * 1).toNat]?).toArray=((xs.toList.drop i).take k).toArray:=by
  have e:(fun (m:Nat)=>xs[((i:Int)+(m:Int) * 1).toNat]?)=fun m=>xs[i+m]?:=by
    funext m
    have:((i:Int)+(m:Int) * 1).toNat=i+m:=by omega
    rw [this]
  rw [e]
  have:=pick_run xs i k
  rw [List.filterMap_map] at this
  have e2:((fun x=>xs[x]?)∘fun x=>i+x)=fun m=>xs[i+m]?:=rfl
  rw [e2] at this
  rw [this]
theorem zk3 {t sl:Addr}{items:Array Value}{vl vu:Value}{lo hi:Option Int}{Q:Value->Shared->Prop} (ht:IsTup s.heap t items) (hs:s.heap.IsSliceOf sl vl vu .none) (pl:IsPart vl lo) (pu:IsPart vu hi)
    (hw:¬ (sIx items.size 0 lo=0 /\ sIx items.size items.size hi=items.size))
    (h:Q (.ref s.heap.objs.size) {s with heap:=s.heap.push {cls:=.type "tuple",data:=.seq ((items.toList.drop (sIx items.size 0 lo)).take (sIx items.size items.size hi - sIx items.size 0 lo)).toArray}})
    (hsz:items.size≤sizeLine):wpAny (model prog w) A (getItem (.ref t) (.ref sl)) Q E s:=by
  have htake:sizeOk (.seq ((items.toList.drop (sIx items.size 0 lo)).take (sIx items.size items.size hi - sIx items.size 0 lo)).toArray):=by
    show ((items.toList.drop (sIx items.size 0 lo)).take (sIx items.size items.size hi - sIx items.size 0 lo)).toArray.size≤sizeLine
    rw [List.size_toArray,List.length_take,List.length_drop,Array.length_toList]
    omega
  have hj:sIx items.size items.size hi≤items.size:=sIx_le _ _ (Nat.le_refl _) hi
  obtain ⟨os,hos,hcs,hds⟩:=id hs
  have hTs:s.TypeIs (.ref sl) "slice":=⟨os,hos,hcs⟩
  unfold getItem
  try with_reducible refine wpAny_holding ?_
  first | refine wpAny_bind (wpAny_pure ?_) | skip
  refine wpAny_bind (wpAny_sequenceKey ht.typeIs (by decide) ?_)
  refine wpAny_bind (wpAny_callSpecial?_slot (name:=Str.ofString "__getitem__") ht.typeIs PyProof.Rows.slot_tuple_getitem
    (wpAny_call_entry PyProof.Rows.slot_tuple_getitem ht.typeIs entry_tuple_getitem ?_ (args_tuple_getitem _ _)))
  show wpAny _ _ (Builtin.Tuple.tupleItemsOf (.ref t) >>= _) _ _ s
  refine wpAny_bind (tupleItemsOf_ ht ?_)
  refine wpAny_bind (wpAny_typeOf hTs ?_)
  rw [if_pos (by decide)]
  refine wpAny_bind (zh8 hs pl pu ?_)
  have hno:¬ ((((sIx items.size 0 lo:Nat):Int)==0&&(1:Int)==1&&(sIx items.size items.size hi - sIx items.size 0 lo)==items.size)=true):=by
    intro q
    rw [Bool.and_eq_true,Bool.and_eq_true] at q
    have q1:((sIx items.size 0 lo:Nat):Int)=0:=eq_of_beq q.1.1
    have q2:sIx items.size items.size hi - sIx items.size 0 lo=items.size:=eq_of_beq q.2
    exact hw ⟨by omega,by omega⟩
  show wpAny _ _ (if (((sIx items.size 0 lo:Nat):Int)==0&&(1:Int)==1&&(sIx items.size items.size hi - sIx items.size 0 lo)==items.size)=true then _ else _) _ _ s
  rw [if_neg hno,zx4]
  first
    | exact wpAny_bind (m:=Builtin.Tuple.tupleExact _) (wpAny_newObj_type (wpAny_pure ⟨_,rfl,wpAny_pure h⟩) htake)
    | exact wpAny_bind (m:=Builtin.Tuple.tupleExact _) (wpAny_newObj_type (wpAny_bind (wpAny_pure (wpAny_pure ⟨_,rfl,wpAny_pure h⟩))) htake)
    | exact wpAny_bind (wpAny_bind (m:=Builtin.Tuple.tupleExact _) (wpAny_newObj_type (wpAny_pure (wpAny_pure ⟨_,rfl,wpAny_pure h⟩)) htake))
    | exact wpAny_bind (wpAny_bind (m:=Builtin.Tuple.tupleExact _) (wpAny_newObj_type (wpAny_pure ⟨_,rfl,wpAny_pure h⟩) htake))
end
end HT
namespace L2
open PySem PySem.Spec PyProof.Rows
abbrev TO:=St->Hp->(Option Int->Hp->Prop)->Prop
def PO (X:Cx) (e:Option Expr) (t:TO):Prop:=
  ∀ (pins : List (Addr × Obj)) (s : Shared) (σ : St) (H : Hp) (Q : Option Int -> Hp -> Prop), Inv X pins σ H s -> t σ H Q ->
    wpAny (model X.prog X.w) X.A (evalPart e X.env) (fun u s'=>∃ o H',Inv X pins σ H' s' /\ IsPart u o /\ Q o H') X.xe s
def z0b:TO:=fun _ H Q=>Q none H
def tPart (t:TE):TO:=fun σ H Q=>t σ H fun x H1=>∃ i,x=.int i /\ Q (some i) H1
section
variable {X:Cx}{e:Expr}{te:TE}{lo hi:Option Expr}{tl th:TO}{pos p2:Pos}
theorem z08:PO X none z0b:=by
  intro pins s σ H Q I h
  rw [evalPart_none]
  exact wpAny_pure ⟨none,H,I,.none,h⟩
theorem z07 (h:PE X e te):PO X (some e) (tPart te):=by
  intro pins s σ H Q I hw
  rw [evalPart_some]
  refine thn (h pins s σ H _ I hw) fun u s1 ⟨x,H1,I1,r1,q1⟩=>?_
  obtain ⟨i,rfl,q⟩:=q1
  obtain ⟨t,rfl⟩:=r1
  exact ⟨some i,H1,I1,.int i t,q⟩
def SlR (X:Cx) (r:V->Option Int->Option Int->Hp->VK->Prop):Prop:=
  ∀ (pins : List (Addr × Obj)) (s : Shared) (σ : St) (H : Hp) (x : V) (v vl vu : Value) (lo hi : Option Int) (sl : Addr) (Q : VK), Inv X pins σ H s -> RelV x v -> s.heap.IsSliceOf sl vl vu .none -> IsPart vl lo -> IsPart vu hi -> r x lo hi H Q ->
    ∃ T id,typeLookup (.type T) "__getitem__"=pure (some (.builtin id)) /\ s.TypeIs v T /\ wpAny (model X.prog X.w) X.A (getItem v (.ref sl)) (EP X pins σ Q) X.xe s
theorem SlR.or {r r':V->Option Int->Option Int->Hp->VK->Prop} (h:SlR X r) (h':SlR X r'):SlR X (fun x lo hi H Q=>r x lo hi H Q \/ r' x lo hi H Q):=by
  intro pins s σ H x v vl vu lo hi sl Q I rx hs pl pu q
  rcases q with q | q
  · exact h pins s σ H x v vl vu lo hi sl Q I rx hs pl pu q
  · exact h' pins s σ H x v vl vu lo hi sl Q I rx hs pl pu q
def tSl (r:V->Option Int->Option Int->Hp->VK->Prop) (te:TE) (tl th:TO):TE:=fun σ H Q=>te σ H fun x H1=>tl σ H1 fun l H2=>th σ H2 fun u H3=>r x l u H3 Q
theorem zqh {r:V->Option Int->Option Int->Hp->VK->Prop} (hr:SlR X r) (he:PE X e te) (hl:PO X lo tl) (hu:PO X hi th):PE X (.Subscript e (.Slice lo hi none p2) pos) (tSl r te tl th):=by
  intro pins s σ H Q I h
  refine Subscript_ (thn (he pins s σ H _ I h) fun v s1 ⟨x,H1,I1,r1,q1⟩=>?_)
  refine wpAny_Slice (thn (hl pins s1 σ H1 _ I1 q1) fun vl s2 ⟨l,H2,I2,pl,q2⟩=>thn (hu pins s2 σ H2 _ I2 q2) fun vu s3 ⟨u,H3,I3,pu,q3⟩=>?_)
  rw [evalPart_none]
  refine wpAny_pure ?_
  have I4:Inv X pins σ H3 {s3 with heap:=s3.heap.push {cls:=.type "slice",data:=.fields #[vl,vu,.none]}}:=I3.kept (t':=s3.toks) fun b ob q=>Heap.get?_push_of_some _ q
  obtain ⟨T,id,hT,ht,hg⟩:=hr pins {s3 with heap:=s3.heap.push {cls:=.type "slice",data:=.fields #[vl,vu,.none]}} σ H3 x v vl vu l u s3.heap.objs.size Q I4 r1 (Heap.IsSliceOf.new ..) pl pu q3
  show wpAny (model X.prog X.w) X.A (subscriptTail e (.Slice lo hi none p2) v (.ref s3.heap.objs.size)) (EP X pins σ Q) X.xe {s3 with heap:=s3.heap.push {cls:=.type "slice",data:=.fields #[vl,vu,.none]}}
  exact tail_any (ops:=[.ref s3.heap.objs.size,v]) ht hT hg (by with_unfolding_all rfl)
def zkd (xs:List V) (lo hi:Option Int):List V:=(xs.drop (HT.sIx xs.length 0 lo)).take (HT.sIx xs.length xs.length hi - HT.sIx xs.length 0 lo)
theorem zk4 (xs:List V) (lo hi:Option Int):(zkd xs lo hi).length≤xs.length:=by
  unfold zkd
  rw [List.length_take,List.length_drop]
  omega
def rSlT (K:PySem.W.Frag):V->Option Int->Option Int->Hp->VK->Prop:=fun x lo hi H Q=>∃ a xs,x=.ref a /\ SqT K H a xs /\
  ¬ (HT.sIx xs.length 0 lo=0 /\ HT.sIx xs.length xs.length hi=xs.length) /\ ∀ p,H p=none->Q (.ref p) (upd H p (.tup (zkd xs lo hi)))
theorem sl_tup:SlR X (rSlT X.K):=by
  intro pins s σ H x v vl vu lo hi sl Q I rx hs pl pu h
  obtain ⟨a,xs,rfl,hx,hw,q⟩:=h
  cases rx
  obtain ⟨its,r,ht,hz⟩:=I.tuple hx
  have hlen:its.toArray.size=xs.length:=by rw [List.size_toArray];exact r.length.symm
  refine ⟨"tuple",_,PyProof.Rows.slot_tuple_getitem.lookup,ht.typeIs,?_⟩
  refine HT.zk3 ht hs pl pu (by rw [hlen];exact hw) ?_ (by rw [hlen];exact hz)
  rw [hlen]
  refine ⟨.ref s.heap.objs.size,_,I.laid (t':=s.toks) (o:=.tup (zkd xs lo hi)) (fun b ob q=>Heap.get?_push_of_some _ q) (Nat.le_refl _) ?_,rfl,q _ (I.hok.fresh (Nat.le_refl _))⟩
  exact ⟨Nat.le_trans (zk4 xs lo hi) hz,_,(r.drop (HT.sIx xs.length 0 lo)).take (HT.sIx xs.length xs.length hi - HT.sIx xs.length 0 lo),IsTup.new _ _⟩
def rCatT (K:PySem.W.Frag):R2:=fun x y H Q=>∃ a b xs ys,x=.ref a /\ y=.ref b /\ SqT K H a xs /\ SqT K H b ys /\ xs≠[] /\ xs.length+ys.length≤sizeLine /\
  (ys=[]->Q (.ref a) H) /\ (ys≠[]->∀ p,H p=none->Q (.ref p) (upd H p (.tup (xs++ys))))
theorem Vals.nil_iff {xs:List V}{us:List Value} (r:Vals xs us):us=[]↔xs=[]:=by
  cases r with
  | nil=>simp
  | cons _ _=>simp
theorem z1g:OpR X (binaryOp .Add) (rCatT X.K):=by
  intro pins s σ H x y v u Q I rx ry h
  obtain ⟨a,b,xs,ys,rfl,rfl,ha,hb,hx,hz,q1,q2⟩:=h
  cases rx
  cases ry
  obtain ⟨its,r1,p1,_⟩:=I.tuple ha
  obtain ⟨its2,r2,p2,_⟩:=I.tuple hb
  refine HT.z2g p1 p2 (fun z=>hx (r1.nil_iff.mp z)) (fun z=>⟨.ref a,H,I,rfl,q1 (r2.nil_iff.mp z)⟩) (fun z=>?_) (by rw [<- r1.length,<- r2.length];exact hz)
  refine ⟨.ref s.heap.objs.size,_,I.laid (t':=s.toks) (o:=.tup (xs++ys)) (fun b ob q=>Heap.get?_push_of_some _ q) (Nat.le_refl _) ?_,rfl,q2 (fun w=>z (r2.nil_iff.mpr w)) _ (I.hok.fresh (Nat.le_refl _))⟩
  exact ⟨by rw [List.length_append];exact hz,_,r1.append r2,IsTup.new _ _⟩
end
end L2
namespace L2
open PySem PySem.Spec PyProof.Rows
def ixN (n:Nat) (i:Int):Option Nat:=if 0≤i then (if i < n then some i.toNat else none) else if -(n:Int)≤i then some (i+n).toNat else none
def atI {α:Type} (xs:List α) (i:Int):Option α:=(ixN xs.length i).bind fun j=>xs[j]?
theorem zsm {n:Nat}{i:Int}{j:Nat} (h:ixN n i=some j):seqIndex? i n=some j /\ j < n /\ -(n:Int)≤i /\ i < n:=by
  unfold ixN at h
  by_cases h0:0≤i
  · rw [if_pos h0] at h
    by_cases h1:i < n
    · rw [if_pos h1] at h
      have e:i.toNat=j:=Option.some.inj h
      exact ⟨by rw [seqIndex_of h0 h1,e],by omega,by omega,h1⟩
    · rw [if_neg h1] at h;cases h
  · rw [if_neg h0] at h
    by_cases h1:-(n:Int)≤i
    · rw [if_pos h1] at h
      have e:(i+n).toNat=j:=Option.some.inj h
      exact ⟨by rw [seqIndex_neg (by omega) h1,e],by omega,h1,by omega⟩
    · rw [if_neg h1] at h;cases h
theorem zny {α:Type}{xs:List α}{i:Int}{v:α} (h:atI xs i=some v):∃ j,seqIndex? i xs.length=some j /\ xs[j]?=some v /\ j < xs.length /\ -(xs.length:Int)≤i /\ i < xs.length:=by
  unfold atI at h
  cases e:ixN xs.length i with
  | none=>rw [e] at h;cases h
  | some j =>
    rw [e] at h
    obtain ⟨h1,h2,h3,h4⟩:=zsm e
    exact ⟨j,h1,h,h2,h3,h4⟩
def zg8 (b:Expr):Prop:=∀ o i,subscripted b false o i=operate [o,i] (getItem o i)
def IxR (X:Cx) (r:R2):Prop:=
  ∀ (value slice : Expr) (pins : List (Addr × Obj)) (s : Shared) (σ : St) (H : Hp) (x y : V) (v u : Value) (Q : VK), Inv X pins σ H s -> RelV x v -> RelV y u -> r x y H Q ->
    subscripted slice false v u=operate [v,u] (getItem v u)->wpAny (model X.prog X.w) X.A (subscriptTail value slice v u) (EP X pins σ Q) X.xe s
def MtR (X:Cx) (id:String) (r:V->List V->Hp->VK->Prop):Prop:=
  ∀ (pins : List (Addr × Obj)) (s : Shared) (σ : St) (H : Hp) (x : V) (xs : List V) (v : Value) (us : List Value) (Q : VK), Inv X pins σ H s -> RelV x v -> Vals xs us -> r x xs H Q ->
    wpAny (model X.prog X.w) X.A (call (.builtin id) (v::us)) (EP X pins σ Q) X.xe s
section
variable {X:Cx}{a b:Expr}{ta tb:TE}{pos:Pos}
theorem IxR.or {r r':R2} (h:IxR X r) (h':IxR X r'):IxR X (fun x y H Q=>r x y H Q \/ r' x y H Q):=by
  intro value slice pins s σ H x y v u Q I rx ry q hs
  rcases q with q | q
  · exact h value slice pins s σ H x y v u Q I rx ry q hs
  · exact h' value slice pins s σ H x y v u Q I rx ry q hs
theorem MtR.or {id:String}{r r':V->List V->Hp->VK->Prop} (h:MtR X id r) (h':MtR X id r'):MtR X id (fun x xs H Q=>r x xs H Q \/ r' x xs H Q):=by
  intro pins s σ H x xs v us Q I rx rs q
  rcases q with q | q
  · exact h pins s σ H x xs v us Q I rx rs q
  · exact h' pins s σ H x xs v us Q I rx rs q
theorem pe_ix {r:R2} (hr:IxR X r) (ha:PE X a ta) (hb:PE X b tb) (hs:zg8 b):PE X (.Subscript a b pos) (tOp r ta tb):=by
  intro pins s σ H Q I h
  exact Subscript_ (binT ha hb I h fun v u s2 x y H2 I2 rx ry q=>hr a b pins s2 σ H2 x y v u Q I2 rx ry q (hs _ _))
def rIxL (K:PySem.W.Frag):R2:=fun x y H Q=>∃ p xs i v,x=.ref p /\ y=.int i /\ SqL K H p xs /\ atI xs i=some v /\ Q v H
def rIxT (K:PySem.W.Frag):R2:=fun x y H Q=>∃ p xs i v,x=.ref p /\ y=.int i /\ SqT K H p xs /\ atI xs i=some v /\ Q v H
def rIxS:R2:=fun x y H Q=>∃ z i c,x=.str z /\ y=.int i /\ z.length≤sizeLine /\ atI z.cps.toList i=some c /\ Q (.str ⟨#[c]⟩) H
theorem z1r:IxR X (rIxL X.K):=by
  intro value slice pins s σ H x y v u Q I rx ry h hs
  obtain ⟨p,xs,i,z,rfl,rfl,hq,he,q⟩:=h
  cases rx
  obtain ⟨t,rfl⟩:=ry
  obtain ⟨its,r,pl,hz⟩:=I.list hq
  obtain ⟨j,h1,h2,h3,h4,h5⟩:=zny he
  obtain ⟨w,ew,rw'⟩:=r.get h2
  have hl:=r.length
  have hn:=zif
  have fin:EP X pins σ Q w s:=⟨z,H,I,rw',q⟩
  by_cases h0:0≤i
  · have hj:i.toNat=j:=by
      rw [seqIndex_of h0 h5] at h1
      exact Option.some.inj h1
    exact item_listR pl.isList h0 (by omega) (by rw [hj];simpa using ew) fin hs
  · have hj:(i+(its.toArray.size:Int)).toNat=j:=by
      rw [seqIndex_neg (by omega) h4] at h1
      rw [List.size_toArray,<- hl]
      exact Option.some.inj h1
    exact subscriptTail_builtinR (x:=w) pl.isList.typeIs slot_list_getitem.lookup
      (wpAny_getItem_list_neg (Q:=fun r s'=>r=w /\ EP X pins σ Q r s') pl.isList (by omega) (by rw [List.size_toArray]<;>omega) (by omega) (by rw [hj];simpa using ew) ⟨rfl,fin⟩) hs
theorem ix_tup:IxR X (rIxT X.K):=by
  intro value slice pins s σ H x y v u Q I rx ry h hs
  obtain ⟨p,xs,i,z,rfl,rfl,hq,he,q⟩:=h
  cases rx
  obtain ⟨t,rfl⟩:=ry
  obtain ⟨its,r,pl,hz⟩:=I.tuple hq
  obtain ⟨j,h1,h2,h3,h4,h5⟩:=zny he
  obtain ⟨w,ew,rw'⟩:=r.get h2
  have hl:=r.length
  have hn:=zif
  have fin:EP X pins σ Q w s:=⟨z,H,I,rw',q⟩
  exact subscriptTail_builtinR (x:=w) pl.typeIs slot_tuple_getitem.lookup
    (getItem_tuple (j:=j) (Q:=fun r s'=>r=w /\ EP X pins σ Q r s') pl (by omega) (by omega) (by rw [List.size_toArray,<- hl];exact h1) (by simpa using ew) ⟨rfl,fin⟩) hs
theorem ix_str:IxR X rIxS:=by
  intro value slice pins s σ H x y v u Q I rx ry h hs
  obtain ⟨z,i,c,rfl,rfl,hz,he,q⟩:=h
  obtain ⟨t,rfl⟩:=rx
  obtain ⟨t',rfl⟩:=ry
  obtain ⟨j,h1,h2,h3,h4,h5⟩:=zny he
  have hl:z.cps.toList.length=z.length:=by simp [Str.length]
  rw [hl] at h1 h4 h5
  have hn:=zif
  exact tail_any (typeIs_str s z t) slot_str_getitem.lookup (getItem_str (c:=c) (by
    have e1:decide (i < -(2 ^ 63:Int))=false:=decide_eq_false (by omega)
    have e2:decide (i≥2 ^ 63)=false:=decide_eq_false (by omega)
    rw [e1,e2,Bool.or_false]) (by rw [h1];simpa using h2) ⟨.str ⟨#[c]⟩,H,I.tok _,⟨_,rfl⟩,q⟩) hs
def rIx (K:PySem.W.Frag):R2:=fun x y H Q=>rIxL K x y H Q \/ rIxT K x y H Q \/ rIxS x y H Q
theorem ix_seq:IxR X (rIx X.K):=z1r.or (ix_tup.or ix_str)
theorem zto (its:List Value) (n j:Nat) (u:Value):Obj.mapSeq (·.setIfInBounds j u) {cls:=.type "list",data:=.seq its.toArray n}={cls:=.type "list",data:=.seq (its.set j u).toArray n}:=by
  simp [Obj.mapSeq]
theorem Inv.lst {pins:List (Addr×Obj)}{σ:St}{H:Hp}{s:Shared}{p:Addr}{xs:List V} (I:Inv X pins σ H s) (h:H p=some (.lst xs)) :
    ∃ (its:List Value) (n:Nat),Vals xs its /\ s.heap.get? p=some {cls:=.type "list",data:=.seq its.toArray n} /\ xs.length≤sizeLine:=by
  obtain ⟨z,its,n,r,e⟩:=I.hok p _ h
  exact ⟨its,n,r,e,z⟩
theorem Inv.lstUpd {pins:List (Addr×Obj)}{σ:St}{H:Hp}{s:Shared}{p:Addr}{xs ys:List V}{its its':List Value}{n n':Nat}{f:Obj->Obj} (I:Inv X pins σ H s) (h:H p=some (.lst xs))
    (ho:s.heap.get? p=some {cls:=.type "list",data:=.seq its.toArray n}) (hf:f {cls:=.type "list",data:=.seq its.toArray n}={cls:=.type "list",data:=.seq its'.toArray n'}) (r:Vals ys its') (hz:ys.length≤sizeLine) (t:Nat) :
    Inv X pins σ (upd H p (.lst ys)) {s with heap:=s.heap.update p f,toks:=t}:=by
  have e:(s.heap.update p f).get? p=some {cls:=.type "list",data:=.seq its'.toArray n'}:=by
    rw [Heap.get?_update_self f ho (by rw [hf]<;>rfl),hf]
  refine I.write (x:=p) (e:=p) (by rw [h];trivial) (.inl rfl) (fun b u hb q=>(Heap.get?_update_other _ _ (Ne.symm hb)).trans q) ⟨_,e⟩ ?_
  exact ⟨hz,its',n',r,e⟩
def rSetL:V->V->V->Hp->(Hp->Prop)->Prop:=fun o i v H Q=>∃ p xs k j,o=.ref p /\ i=.int k /\ H p=some (.lst xs) /\ ixN xs.length k=some j /\ Q (upd H p (.lst (xs.set j v)))
theorem set_list:PSet X rSetL:=by
  intro pins s σ H o i v ov iv u Q I ro ri rv h
  obtain ⟨p,xs,k,j,rfl,rfl,hp,hj,q⟩:=h
  cases ro
  obtain ⟨t,rfl⟩:=ri
  obtain ⟨its,n,r,ho,hz⟩:=I.lst hp
  obtain ⟨h1,h2,h3,h4⟩:=zsm hj
  have hl:=r.length
  have hn:=zif
  have I':Inv X pins σ (upd H p (.lst (xs.set j v))) {s with heap:=s.heap.update p (Obj.mapSeq (·.setIfInBounds j u))}:=
    I.lstUpd hp ho (zto its n j u) (r.set rv j) (by rw [List.length_set];exact hz) s.toks
  by_cases h0:0≤k
  · have hk:k.toNat=j:=by
      rw [seqIndex_of h0 h4] at h1
      exact Option.some.inj h1
    exact PySem.W.ki_setAt ho h0 (by omega) (by rw [List.size_toArray,<- hl];exact h4) (by rw [hk];exact ⟨_,I',q⟩)
  · have hk:(k+(its.toArray.size:Int)).toNat=j:=by
      rw [seqIndex_neg (by omega) h3] at h1
      rw [List.size_toArray,<- hl]
      exact Option.some.inj h1
    exact PySem.W.ki_setBack ho (by omega) (by rw [List.size_toArray,<- hl];exact h3) (by omega) (by rw [hk];exact ⟨_,I',q⟩)
theorem zpy (lo hi:Option Int) (n:Nat):(sliceBounds lo hi none n).1=((HT.sIx n 0 lo:Nat):Int) /\ (sliceBounds lo hi none n).2.1=((HT.sIx n n hi:Nat):Int) /\ (sliceBounds lo hi none n).2.2=1:=by
  refine ⟨?_,?_,rfl⟩
  · cases lo with
    | none=>simp [sliceBounds,HT.sIx]
    | some i =>
      simp only [sliceBounds,HT.sIx,Option.getD_none,show (1:Int) > 0 by decide,if_true]
      by_cases h:i < 0
      · simp only [h,if_true]<;>omega
      · simp only [h,if_false]<;>omega
  · cases hi with
    | none=>simp [sliceBounds,HT.sIx]
    | some i =>
      simp only [sliceBounds,HT.sIx,Option.getD_none,show (1:Int) > 0 by decide,if_true]
      by_cases h:i < 0
      · simp only [h,if_true]<;>omega
      · simp only [h,if_false]<;>omega
theorem zot (its:List Value) (lo hi:Option Int):slicePick its.toArray lo hi none=((its.drop (HT.sIx its.length 0 lo)).take (HT.sIx its.length its.length hi - HT.sIx its.length 0 lo)).toArray:=by
  obtain ⟨h1,h2,h3⟩:=zpy lo hi its.toArray.size
  unfold slicePick
  rw [h1,h2,h3]
  simp only [sliceRange_one,pick_run,List.size_toArray]<;>rfl
def rSlL (K:PySem.W.Frag):V->Option Int->Option Int->Hp->VK->Prop:=fun x lo hi H Q=>∃ a xs,x=.ref a /\ SqL K H a xs /\ ∀ p,H p=none->Q (.ref p) (upd H p (.lst (zkd xs lo hi)))
theorem z0j:SlR X (rSlL X.K):=by
  intro pins s σ H x v vl vu lo hi sl Q I rx hs pl pu h
  obtain ⟨a,xs,rfl,hx,q⟩:=h
  cases rx
  obtain ⟨its,r,ht,hz⟩:=I.list hx
  have hlen:=r.length
  refine ⟨"list",_,slot_list_getitem.lookup,ht.isList.typeIs,?_⟩
  refine wpAny_getItem_list_slice ht.isList hs pl pu .none (by simp) ?_ (by rw [List.size_toArray]<;>omega)
  rw [zot,<- hlen]
  refine ⟨.ref s.heap.objs.size,_,I.laid (t':=s.toks) (o:=.lst (zkd xs lo hi)) (fun b ob q=>Heap.get?_push_of_some _ q) (Nat.le_refl _) ?_,rfl,q _ (I.hok.fresh (Nat.le_refl _))⟩
  exact ⟨Nat.le_trans (zk4 xs lo hi) hz,_,0,(r.drop (HT.sIx xs.length 0 lo)).take (HT.sIx xs.length xs.length hi - HT.sIx xs.length 0 lo),Heap.get?_push_size _ rfl⟩
theorem zre:zdn X (.builtin "len") (fun xs H Q=>∃ p ys,xs=[.ref p] /\ (SqL X.K H p ys \/ SqT X.K H p ys) /\ Q (.int ys.length) H):=by
  intro pins s σ H xs us Q I r h
  obtain ⟨p,ys,rfl,hq,q⟩:=h
  obtain ⟨u,rfl,rx⟩:=vals1 r
  cases rx
  have hn:=zif
  rcases hq with hq | hq
  · obtain ⟨its,r',pl,hz⟩:=I.list hq
    have hlen:=r'.length
    exact Calls.call_len_list pl.isList (by simp only [List.size_toArray]<;>omega) ⟨.int ys.length,H,I.tok _,⟨s.toks+1,by rw [List.size_toArray,hlen]⟩,q⟩
  · obtain ⟨its,r',pl,hz⟩:=I.tuple hq
    have hlen:=r'.length
    exact len_tuple pl (by simp only [List.size_toArray]<;>omega) ⟨.int ys.length,H,I.tok _,⟨s.toks+1,by rw [List.size_toArray,hlen]⟩,q⟩
theorem zrd:zdn X (.builtin "len") (fun xs H Q=>∃ z,xs=[.str z] /\ z.length≤sizeLine /\ Q (.int z.length) H):=by
  intro pins s σ H xs us Q I r h
  obtain ⟨z,rfl,hz,q⟩:=h
  obtain ⟨u,rfl,t,rfl⟩:=vals1 r
  have hn:=zif
  exact len_str (by omega) ⟨.int z.length,H,I.tok _,⟨_,rfl⟩,q⟩
theorem zdn.or {f:Value}{r r':List V->Hp->VK->Prop} (h:zdn X f r) (h':zdn X f r'):zdn X f (fun xs H Q=>r xs H Q \/ r' xs H Q):=by
  intro pins s σ H xs us Q I rs q
  rcases q with q | q
  · exact h pins s σ H xs us Q I rs q
  · exact h' pins s σ H xs us Q I rs q
theorem zrc:zdn X (.type "list") (fun xs H Q=>∃ p ys,xs=[.ref p] /\ (SqL X.K H p ys \/ SqT X.K H p ys) /\ ∀ l,H l=none->Q (.ref l) (upd H l (.lst ys))):=by
  intro pins s σ H xs us Q I r h
  obtain ⟨p,ys,rfl,hq,q⟩:=h
  obtain ⟨u,rfl,rx⟩:=vals1 r
  cases rx
  have fin:∀ (its:List Value),Vals ys its->ys.length≤sizeLine->∀ (h':Heap) (c':Nat),(∀ b o',s.heap.get? b=some o'->h'.get? b=some o')->
      h'.get? s.heap.objs.size=some {cls:=.type "list",dict:=none,data:=.seq its.toArray c',slots:=#[]}->EP X pins σ Q (.ref s.heap.objs.size) {s with heap:=h'}:=fun its r' hz h' c' kp e=>
    ⟨.ref s.heap.objs.size,_,I.laid (t':=s.toks) kp (Nat.le_refl _) (show zdm X.prog X.w _ h' _ (.lst ys) from ⟨hz,its,c',r',e⟩),rfl,q _ (I.hok.fresh (Nat.le_refl _))⟩
  rcases hq with hq | hq
  · obtain ⟨its,r',pl,hz⟩:=I.list hq
    have hlen:=r'.length
    obtain ⟨o,ho,hc,n,hd⟩:=pl.isList
    exact call_list_seq p (.inl rfl) ho hc hd (fun h' c' kp e=>fin its r' hz h' c' kp e) (by simp only [List.size_toArray]<;>omega)
  · obtain ⟨its,r',pl,hz⟩:=I.tuple hq
    have hlen:=r'.length
    obtain ⟨o,ho,hc,n,hd⟩:=pl
    exact call_list_seq p (.inr rfl) ho hc hd (fun h' c' kp e=>fin its r' hz h' c' kp e) (by simp only [List.size_toArray]<;>omega)
theorem zo3:zdn X (.type "tuple") (fun xs H Q=>∃ p ys,xs=[.ref p] /\ ((SqL X.K H p ys /\ ∀ l,H l=none->Q (.ref l) (upd H l (.tup ys))) \/ (SqT X.K H p ys /\ Q (.ref p) H))):=by
  intro pins s σ H xs us Q I r h
  obtain ⟨p,ys,rfl,h⟩:=h
  obtain ⟨u,rfl,rx⟩:=vals1 r
  cases rx
  rcases h with ⟨hq,q⟩ | ⟨hq,q⟩
  · obtain ⟨its,r',pl,hz⟩:=I.list hq
    have hlen:=r'.length
    refine call_tuple_list pl.isList (fun h' kp=>?_) (by simp only [List.size_toArray]<;>omega)
    have I1:Inv X pins σ H {s with heap:=h'}:=I.kept (t':=s.toks) kp
    have I2:Inv X pins σ (upd H h'.objs.size (.tup ys)) {s with heap:=h'.push {cls:=.type "tuple",data:=.seq its.toArray}}:=
      I1.laid (t':=s.toks) (fun b o e=>Heap.get?_push_of_some _ e) (Nat.le_refl _) (show zdm X.prog X.w _ _ _ (.tup ys) from ⟨hz,its,r',IsTup.new _ _⟩)
    exact ⟨.ref h'.objs.size,_,I2,rfl,q _ (I1.hok.fresh (Nat.le_refl _))⟩
  · obtain ⟨its,r',pl,hz⟩:=I.tuple hq
    exact call_tuple_same pl ⟨.ref p,H,I,rfl,q⟩
def tyV (K:PySem.W.Frag) (T:String) (x:V) (H:Hp):Prop:=match x with
  | .str _=>T="str"
  | .int _=>T="int"
  | .ref p=>(T="list" /\ ∃ xs,SqL K H p xs) \/ (T="tuple" /\ ∃ o,K.lookup p=some o /\ o.cls=.type "tuple" /\ o.dict=none) \/
      (T="dict" /\ ((∃ kvs,H p=some (.dK kvs)) \/ ∃ kvs,H p=some (.dT kvs))) \/ (T="set" /\ ∃ S n,H p=some (.set S n))
  | _=>False
theorem tyV_is {pins:List (Addr×Obj)}{σ:St}{H:Hp}{s:Shared}{T:String}{x:V}{v:Value} (I:Inv X pins σ H s) (r:RelV x v) (ty:tyV X.K T x H) :
    s.TypeIs v T /\ ∀ a,v=.ref a->∃ ob,s.heap.get? a=some ob /\ ob.dict=none:=by
  cases x with
  | str z =>
    obtain ⟨t,rfl⟩:=r
    cases (show T="str" from ty)
    exact ⟨typeIs_str s z t,fun _ e=>nomatch e⟩
  | int i =>
    obtain ⟨t,rfl⟩:=r
    cases (show T="int" from ty)
    exact ⟨typeIs_int s i t,fun _ e=>nomatch e⟩
  | ref p =>
    cases r
    rcases ty with ⟨rfl,xs,hq⟩ | ⟨rfl,o,hk,hc,hd⟩ | ⟨rfl,hk⟩ | ⟨rfl,S,n,hk⟩
    · obtain ⟨its,_,pl,_⟩:=I.list hq
      refine ⟨pl.isList.typeIs,fun a e=>?_⟩
      cases e
      obtain ⟨o,n,e,c,hd,_⟩:=pl
      exact ⟨o,e,hd⟩
    · refine ⟨⟨o,I.kIn p o hk,hc⟩,fun a e=>?_⟩
      cases e
      exact ⟨o,I.kIn _ o hk,hd⟩
    · have z:∃ o,s.heap.get? p=some o /\ o.ExactDict:=by
        rcases hk with ⟨kvs,hk⟩ | ⟨kvs,hk⟩
        · obtain ⟨_,_,_,_,o,_,_,e,ex,_⟩:=I.hok p _ hk
          exact ⟨o,e,ex⟩
        · obtain ⟨_,_,_,_,o,_,_,e,ex,_⟩:=I.hok p _ hk
          exact ⟨o,e,ex⟩
      obtain ⟨o,e,ex⟩:=z
      refine ⟨⟨o,e,ex.1⟩,fun a e2=>?_⟩
      cases e2
      exact ⟨o,e,ex.2.1⟩
    · obtain ⟨o,_,_,_,e,ex,_⟩:=I.hok p _ hk
      refine ⟨⟨o,e,ex.1⟩,fun a e2=>?_⟩
      cases e2
      exact ⟨o,e,ex.2.1⟩
  | _=>exact False.elim ty
def tBM (K:PySem.W.Frag) (T:String) (r:V->List V->Hp->VK->Prop) (to:TE) (t:TA):TE:=fun σ H Q=>to σ H fun x H1=>tyV K T x H1 /\ t σ H1 fun xs H2=>r x xs H2 Q
variable {o e:Expr}{es:List Expr}{to:TE}{t:TA}{name:Str}{apos cpos:Pos}{T id:String}{r:V->List V->Hp->VK->Prop}
theorem ztc (pa:PlainAttrs T) (slot:Slot T name id) (hty:typeOf (.builtin id)=pure (.type "method_descriptor")) (hm:MtR X id r) (ho:PE X o to) (ha:PA X (e::es) t)
    (hbase:attributeBase o name X.env (eval o X.env)=eval o X.env:=by rfl)
    (hfew:((backTo cpos (starEach (e::es) X.env)).all (fun x=>!x.1)&&(backToKw cpos (keywordEach [] X.env)).all (fun x=>x.1.isSome)
      && decide ((e::es).length+([]:List Keyword).length+(if ([]:List Keyword).isEmpty then 0 else 1) < 30))=true:=by rfl)
    (hline:(apos.endLine==cpos.line)=true:=by rfl) (hs:starEach (e::es) X.env=(false,eval e X.env)::starEach es X.env:=by rfl) (hplain:(backTo cpos (starEach es X.env)).any (·.1)=false:=by rfl) :
    PE X (.Call (.Attribute o name apos) (e::es) [] cpos) (tBM X.K T r to t):=by
  intro pins s σ H Q I h
  refine wpAny_Call_method_late hbase hfew hline rfl (thn (ho pins s σ H _ I h) fun v s1 ⟨x,H1,I1,r1,ty,q1⟩=>?_)
  obtain ⟨h1,h2⟩:=tyV_is I1 r1 ty
  refine ⟨T,id,pa,slot,hty,h1,h2,?_⟩
  have hA:=ha cpos pins s1 σ H1 _ I1 q1
  rw [hs] at hA ⊢
  refine Calls.callWith_builtin (by show (false||(backTo cpos (starEach es X.env)).any (·.1))=false;rw [hplain]<;>rfl) (Calls.evalArgs_plain ?_)
  exact thn hA fun us s2 ⟨vs,H2,I2,r2,q2⟩=>hm pins s2 σ H2 x vs v us Q I2 r1 r2 q2
end
end L2
namespace L2
open PySem PySem.Spec PyProof.Rows
def MtM (X:Cx) (id:String) (r:V->List V->Hp->VK->Prop):Prop:=
  ∀ (pins : List (Addr × Obj)) (s : Shared) (σ : St) (H : Hp) (x : V) (xs : List V) (v : Value) (us : List Value) (Q : VK), Inv X pins σ H s -> RelV x v -> Vals xs us -> r x xs H Q ->
    wpAny (model X.prog X.w) X.A (call (.builtin id) (v::us)) (EP X pins σ Q) X.xe s
theorem Vals.one:∀ {x:V}{us:List Value},Vals [x] us->∃ u,us=[u] /\ RelV x u
  | _,_,.cons r .nil=>⟨_,rfl,r⟩
theorem Vals.two:∀ {x y:V}{us:List Value},Vals [x,y] us->∃ u v,us=[u,v] /\ RelV x u /\ RelV y v
  | _,_,_,.cons r (.cons q .nil)=>⟨_,_,rfl,r,q⟩
theorem Vals.zero:∀ {us:List Value},Vals [] us->us=[]
  | _,.nil=>rfl
theorem Vals.reverse {xs:List V}{us:List Value} (h:Vals xs us):Vals xs.reverse us.reverse:=by
  induction h with
  | nil=>exact .nil
  | cons r t ih=>rw [List.reverse_cons,List.reverse_cons];exact Vals.append ih (.cons r .nil)
theorem Vals.rep {xs:List V}{us:List Value} (h:Vals xs us):∀ k:Nat,Vals (List.replicate k xs).flatten (List.replicate k us).flatten
  | 0=>.nil
  | k + 1 => by
    rw [List.replicate_succ,List.replicate_succ,List.flatten_cons,List.flatten_cons]
    exact Vals.append h (Vals.rep h k)
theorem foldl_rep (its:List Value):∀ (k:Nat) (acc:List Value),
    List.foldl (fun x1 x2=>x1++x2) acc.toArray (List.replicate k its.toArray)=(acc++(List.replicate k its).flatten).toArray
  | 0,acc=>by simp
  | k + 1, acc => by
    have e:acc.toArray++its.toArray=(acc++its).toArray:=by simp
    have e2:(acc++its)++(List.replicate k its).flatten=acc++(List.replicate (k+1) its).flatten:=by
      rw [List.replicate_succ,List.flatten_cons,List.append_assoc]
    rw [<- e2,<- foldl_rep its k (acc++its),<- e,List.replicate_succ,List.foldl_cons]
section
variable {X:Cx}{pins:List (Addr×Obj)}{σ:St}{H:Hp}{s:Shared}{l b:Addr}{xs ys zs:List V}
theorem Inv.lset {its its':List Value}{n:Nat}{f:Array Value->Array Value}{t':Nat} (I:Inv X pins σ H s) (hH:H l=some (.lst xs))
    (e:s.heap.get? l=some {cls:=.type "list",data:=.seq its.toArray n}) (hf:f its.toArray=its'.toArray) (hv:Vals ys its') (hz:ys.length≤sizeLine) :
    Inv X pins σ (upd H l (.lst ys)) {s with heap:=s.heap.update l (Obj.mapSeq f),toks:=t'}:=by
  have q:=PySem.IsL.update e f
  rw [hf] at q
  refine I.write (x:=l) (e:=l) (by rw [hH];exact trivial) (.inl rfl) (fun b' u hb hu=>(Heap.get?_update_other s.heap (Obj.mapSeq f) (Ne.symm hb)).trans hu) ⟨_,q⟩ ?_
  exact ⟨hz,its',_,hv,q⟩
theorem Inv.lnew {its:List Value}{t':Nat} (I:Inv X pins σ H s) (hv:Vals ys its) (hz:ys.length≤sizeLine) :
    Inv X pins σ (upd H s.heap.objs.size (.lst ys)) {s with heap:=s.heap.push {cls:=.type "list",data:=.seq its.toArray},toks:=t'}:=
  I.laid (fun _ _ q=>Heap.get?_push_of_some _ q) (Nat.le_refl _) ⟨hz,its,0,hv,Heap.get?_push_size _ rfl⟩
theorem Inv.fresh (I:Inv X pins σ H s):H s.heap.objs.size=none:=I.hok.fresh (Nat.le_refl _)
theorem Inv.lstM (I:Inv X pins σ H s) (hH:H l=some (.lst xs)):xs.length≤sizeLine /\ ∃ (its:List Value) (n:Nat),Vals xs its /\ xs.length=its.length /\ s.heap.get? l=some {cls:=.type "list",data:=.seq its.toArray n}:=by
  obtain ⟨z,its,n,r,e⟩:=I.hok l _ hH
  exact ⟨z,its,n,r,r.length,e⟩
theorem zqp {n:Nat} (h:n≤sizeLine):Builtin.List.listTooLong n=false:=by
  unfold Builtin.List.listTooLong
  exact decide_eq_false (by omega)
end
section
variable {X:Cx}
def z0z:V->List V->Hp->VK->Prop:=fun x vs H Q=>∃ l xs y,x=.ref l /\ vs=[y] /\ H l=some (.lst xs) /\ xs.length < sizeLine /\ Q .non (upd H l (.lst (xs++[y])))
theorem zob:MtM X "list.append" z0z:=by
  intro pins s σ H x vs v us Q I rx rv h
  obtain ⟨l,xs,y,rfl,rfl,hH,hz,q⟩:=h
  cases rx
  obtain ⟨u,rfl,ru⟩:=rv.one
  obtain ⟨z,its,n,r,hl,e⟩:=I.lstM hH
  refine call_meets F.slot_list_append ⟨_,e,rfl⟩ F.entry_list_append (F.args_list_append_2 _ _) (PySem.list_append l its.toArray n u (by rw [List.size_toArray];omega)) ⟨e,?_⟩
  refine ⟨.non,_,I.lset (its':=its++[u]) hH e (by simp) (r.append (.cons ru .nil)) ?_,rfl,q⟩
  rw [List.length_append,List.length_singleton]
  omega
def z0y:V->List V->Hp->VK->Prop:=fun x vs H Q=>∃ l b xs zs,x=.ref l /\ vs=[.ref b] /\ H l=some (.lst xs) /\ H b=some (.lst zs) /\ xs.length+zs.length≤sizeLine /\ Q .non (upd H l (.lst (xs++zs)))
theorem mt_extend:MtM X "list.extend" z0y:=by
  intro pins s σ H x vs v us Q I rx rv h
  obtain ⟨l,b,xs,zs,rfl,rfl,hH,hB,hz,q⟩:=h
  cases rx
  obtain ⟨u,rfl,ru⟩:=rv.one
  cases ru
  obtain ⟨z,its,n,r,hl,e⟩:=I.lstM hH
  obtain ⟨z2,its2,n2,r2,hl2,e2⟩:=I.lstM hB
  have hsz:its.toArray.size+its2.toArray.size≤sizeLine:=by rw [List.size_toArray,List.size_toArray];omega
  have hlong:¬ (!its.toArray.isEmpty&&Builtin.List.listTooLong (its.toArray.size+its2.toArray.size))=true:=by
    rw [zqp hsz,Bool.and_false]
    exact Bool.false_ne_true
  refine call_meets F.slot_list_extend ⟨_,e,rfl⟩ F.entry_list_extend (F.args_list_extend_2 _ _)
    (AutoSeq1.list_extend_list_list_0 l its.toArray n b its2.toArray n2 hlong (by rw [List.size_toArray];omega) (by omega)) ⟨e,e2,?_⟩
  refine ⟨.non,_,I.lset (its':=its++its2) hH e (by simp) (r.append r2) ?_,rfl,q⟩
  rw [List.length_append]
  omega
def rCat:R2:=fun x y H Q=>∃ l b xs zs,x=.ref l /\ y=.ref b /\ H l=some (.lst xs) /\ H b=some (.lst zs) /\ xs.length+zs.length≤sizeLine /\ ∀ p,H p=none->Q (.ref p) (upd H p (.lst (xs++zs)))
theorem op_cat:OpR X (binaryOp .Add) rCat:=by
  intro pins s σ H x y v u Q I rx ry h
  obtain ⟨l,b,xs,zs,rfl,rfl,hH,hB,hz,q⟩:=h
  cases rx
  cases ry
  obtain ⟨z,its,n,r,hl,e⟩:=I.lstM hH
  obtain ⟨z2,its2,n2,r2,hl2,e2⟩:=I.lstM hB
  refine PySem.P.add_list e e2 ?_ (by rw [List.size_toArray,List.size_toArray];omega)
  have ea:its.toArray++its2.toArray=(its++its2).toArray:=by simp
  rw [ea]
  exact ⟨.ref _,_,I.lnew (t':=s.toks) (r.append r2) (by rw [List.length_append];omega),rfl,q _ I.fresh⟩
def rRep:R2:=fun x y H Q=>∃ l k xs,x=.ref l /\ y=.int k /\ H l=some (.lst xs) /\ -(2 ^ 63)≤k /\ k < 2 ^ 63 /\ xs.length * k.toNat≤sizeLine /\
  ∀ p,H p=none->Q (.ref p) (upd H p (.lst (List.replicate k.toNat xs).flatten))
theorem len_rep {α:Type} (xs:List α) (k:Nat):(List.replicate k xs).flatten.length=k * xs.length:=by
  induction k with
  | zero=>simp
  | succ k ih=>rw [List.replicate_succ,List.flatten_cons,List.length_append,ih,Nat.succ_mul,Nat.add_comm]
theorem op_rep:OpR X (binaryOp .Mult) rRep:=by
  intro pins s σ H x y v u Q I rx ry h
  obtain ⟨l,k,xs,rfl,rfl,hH,h1,h2,hz,q⟩:=h
  cases rx
  obtain ⟨t,rfl⟩:=ry
  obtain ⟨z,its,n,r,hl,e⟩:=I.lstM hH
  have hlen:its.toArray.size * k.toNat≤sizeLine:=by rw [List.size_toArray,<- hl];exact hz
  have hcap:¬ its.toArray.size * k.toNat > (2 ^ 63 - 1) / 8:=by
    have:(sizeLine:Nat)≤(2 ^ 63 - 1) / 8:=by decide
    omega
  have hfit:¬ (!Builtin.List.listFitsIndex k)=true:=by
    rw [fitsIndex_both h1 h2]
    exact Bool.false_ne_true
  have hlong:¬ Builtin.List.listTooLong (its.toArray.size * k.toNat)=true:=by
    rw [zqp hlen]
    exact Bool.false_ne_true
  have hnew:List.foldl (fun x1 x2=>x1++x2) #[] (List.replicate (if its.toArray.isEmpty=true then 0 else k.toNat) its.toArray)=(List.replicate k.toNat its).flatten.toArray:=by
    have f0:∀ m:Nat,List.foldl (fun x1 x2=>x1++x2) #[] (List.replicate m its.toArray)=(List.replicate m its).flatten.toArray:=fun m=>by
      have:=foldl_rep its m []
      rw [List.nil_append] at this
      exact this
    rw [f0]
    cases its with
    | nil=>simp
    | cons a r'=>rw [if_neg (by simp)]
  refine wpAny_binaryOp_repeat_ref (T:="list") (U:="int") (by decide) ⟨_,e,rfl⟩ (fun s'=>typeIs_int s' k t) noFill_list_mul F.fills_int_mul F.slot_int_rmul repeat_list F.slot_int_index.lookup
    (call_meets F.slot_int_rmul (typeIs_int s k t) F.entry_int_rmul (F.args_int_rmul_2 _ _) (int___rmul___int_list k t l its.toArray n)
      ⟨e,rfl,⟨_,e,rfl⟩,call_meets F.slot_list_mul ⟨_,e,rfl⟩ F.entry_list_mul (F.args_list_mul_2 _ _) (AutoListH.list___mul___list_int_3 l its.toArray n k t hfit hcap hlong) ⟨e,?_⟩⟩)
  rw [hnew]
  exact ⟨.ref _,_,I.lnew (t':=s.toks) (r.rep k.toNat) (by rw [len_rep,Nat.mul_comm];exact hz),rfl,q _ I.fresh⟩
end
section
variable {prog:Program}{w:World}{A:Around}{E:Value->Shared->Prop}{s:Shared}
end
section
variable {X:Cx}
end
end L2
namespace Att
open PySem PySem.W PySem.Calls PyProof.Rows
theorem zml {P:Params}{h:Heap}:∀ (ns:List Int) (vs:List Value),WellAll P h vs (ns.map WData.int)->IntsAre vs ns:=by
  intro ns
  induction ns with
  | nil =>
    intro vs w
    rw [List.map_nil] at w
    cases w
    exact .nil
  | cons n ns ih =>
    intro vs w
    rw [List.map_cons] at w
    cases w with
    | cons a b =>
      cases a
      exact .cons _ _ (ih _ b)
theorem zu8 {l:OpenLaw}{n:Nat} (hn:l.most=some n) {P:Params}{h:Heap}{args:List WData}{vals:List Value}
    (hpre:l.row.toRowW.claim.pre args=true) (hwl:WellAll P h vals args) :
    ∃ a vs ns,vals=[Value.ref a] /\ args=[WData.list (ns.map WData.int)] /\ h.get? a=some {cls:=.type "list",data:=.seq vs.toArray} /\ IntsAre vs ns /\ ns.length≤n:=by
  have hsh:WShape.hasAll [] args [.list .int]=true:=(pre_splitW hpre).1
  have hc:l.pre.holds [] {args:=args}=true:=(pre_splitW hpre).2
  obtain ⟨d,r,rfl,h1,h2⟩:=hasAllW_cons hsh
  obtain rfl:=hasAllW_nil h2
  obtain ⟨xs,rfl,h3⟩:=hasW_list h1
  obtain ⟨ns,rfl⟩:=items_int h3
  have hlen:ns.length≤n:=by
    unfold OpenLaw.pre at hc
    have h4:(WTm.not (.lt (.lit (.int (n:Int))) (.len (.arg 0)))).holds [] {args:=[.list (ns.map .int)]}=true:=by
      have h4:=(holds_andW hc).1
      rw [hn] at h4
      exact h4
    have h5:=condW_of h4 (w_not (w_lt w_lit (w_len_list (w_arg rfl))))
    rw [List.length_map] at h5
    refine Nat.le_of_not_lt fun q=>?_
    have q':(n:Int) < ((ns.length:Nat):Int):=by omega
    first
      | (rw [decide_eq_true q'] at h5;exact absurd h5 (by decide))
      | (simp at h5;omega)
  cases hwl with
  | cons w1 w2 =>
    cases w2
    cases w1 with
    | list ho hall=>exact ⟨_,_,ns,rfl,rfl,ho,zml ns _ hall,hlen⟩
theorem zvg (l:OpenLaw) (args:List WData):l.row.toRowW.claim.post args (.bool true) args=true:=
  postW_of (r:=l.row.toRowW) (X:=(true==true))
    (show WShape.has [] (.bool true) .bool=true by first | rfl | decide | simp [WShape.has,WShape.arms,WShape.armsAll])
    (show (WTm.eq .res (.lit (.bool true))).value [] {args:=args,res:=some (.bool true),after:=args}=some (.bool (true==true)) from w_eq_bool (w_res rfl) w_lit) rfl
theorem attach_call {l:OpenLaw}{n:Nat}{q:Program}{loose:List Str}{XP:(Str->Option Value)->Heap->Prop}{YP:World->Heap->Prop}{d:DefRec}
    (hn:l.most=some n) (hdf:d.params.defaults=[])
    (call:∀ (w:World) (s₀ s₁:Shared) (mg mb:Str->Option Value) (fa:Addr) (o:Obj) (pm cd doc:Value) (a:Addr) (vs:List Value) (ns:List Int),
      Ground q loose [] XP w s₀ mg mb s₁.heap->YP w s₁.heap->
      s₁.heap.get? fa=some o->o.data=.func (docDef d.name d.params d.body d.scope pm cd doc)->s₁.heap.CodeRec cd d.name->mg d.name=some (.ref fa)->
      s₁.heap.get? a=some {cls:=.type "list",data:=.seq vs.toArray}->IntsAre vs ns->ns.length≤n->s₁.gens=#[]->
      codeAny (model l.prog w) callerA (.call (.ref fa) ⟨[.ref a],[]⟩) (fun r s'=>r=.ok (.ret (.bool true)) /\ OldK s₁.heap s'.heap /\ s'.os=s₁.os /\ AllBare s'.gens) s₁) :
    WalkO q loose XP YP l.row.toRowW d [] (fun f vs=>PySem.call f vs):=by
  intro w s₀ s₁ mg mb G Y fa o pm cd doc dV kV ho hd hcd hD hmg hg args vals as hpre hlay hrd hwl hlo
  obtain rfl:dV=.none:=Dflts.none hD hdf
  obtain rfl:kV=.none:=Dflts.noKw hD
  obtain ⟨a,vs,ns,rfl,rfl,hobj,hints,hlen⟩:=zu8 hn hpre hwl
  refine enter_call (codeAny_mono (call w s₀ s₁ mg mb fa o pm cd doc a vs ns G Y ho (fd_plain hd) hcd hmg hobj hints hlen hg) fun r s' hq=>?_)
  obtain ⟨rfl,h2,h3,h4⟩:=hq
  exact ⟨.inl ⟨.bool true,.bool true,[],rfl,fun _=>rfl,.bool true,zvg l _,fun _=>⟨List.Pairwise.nil,fun _ hm=>(nomatch hm)⟩⟩,h2,h3,h4⟩
section
variable {prog:Program}{w:World}{A:Around}{E:Value->Shared->Prop}{s:Shared}{K:Frag}
end
end Att
namespace L2
open PySem PySem.Spec PyProof.Rows
theorem zn2:∀ {vs:List Value}{ns:List Int},IntsAre vs ns->Vals (ns.map V.int) vs
  | _,_,.nil=>.nil
  | _,_,.cons n t h=>.cons ⟨t,rfl⟩ (zn2 h)
def Only (H:Hp):Prop:=∀ b,H b=none \/ ∃ o xs,H b=some (.frz o (.lst xs))
theorem zyn {P:Program}{w:World}{K:PySem.W.Frag}{mg mb:Str->Option Value}{CX:CXT}{k:Nat}{fa a:Addr}{fd:FuncData}{x:Str}{sp:Sp}{s₁:Shared}{vs:List Value}{ns:List Int}
    (KX:K.In s₁.heap) (hns:s₁.heap.Ns mainGlobals mg) (hb:s₁.heap.Ns builtinsNs mb) (hbb:∀ x:Str,x≠"__name__"->mb x=bootBuiltins x) (hlim:s₁.heap.NoLimit) (hg:s₁.gens=#[])
    (ha:s₁.heap.get? a=some {cls:=.type "list",data:=.seq vs.toArray}) (hi:IntsAre vs ns) (hl:ns.length≤sizeLine) (hr:zbj k callerA)
    (F:∀ base:Heap,K.In base->base.Ns mainGlobals mg->zgi P w K mg base CX k fa fd [x] sp) (hbind:∀ (s:Shared) (u:Value),BindsTo s fd ⟨[u],[]⟩ [(x,u)])
    (hsp:∀ H:Hp,Only H->SqL K H a (ns.map V.int)->sp [.ref a] H (fun v _=>v=.bl true) fun _ _ _=>False)
    (hCX:∀ H e s',CX [] H s₁ (fun _ _ _=>False) e s'->False) :
    codeAny (model P w) callerA (.call (.ref fa) ⟨[.ref a],[]⟩) (fun r s'=>r=.ok (.ret (.bool true)) /\ OldK s₁.heap s'.heap /\ s'.os=s₁.os /\ AllBare s'.gens) s₁:=by
  have rv:=zn2 hi
  have lenV:=hi.length
  have core:∀ H:Hp,Only H->SqL K H a (ns.map V.int)->HOk P w H s₁.heap->(∀ b,H b≠none->b=a)->(H a≠none->K.lookup a=none)->
      codeAny (model P w) callerA (.call (.ref fa) ⟨[.ref a],[]⟩) (fun r s'=>r=.ok (.ret (.bool true)) /\ OldK s₁.heap s'.heap /\ s'.os=s₁.os /\ AllBare s'.gens) s₁:=by
    intro H hO hS hok hA hK
    have base_of:∀ {b:Addr}{o:Obj},s₁.heap.get? b=some o->H b=none->(zjm s₁.heap H).get? b=some o:=fun e n=>zyr e n
    have noA:∀ {b:Addr}{o:Obj}{es:Array DictEntry}{ep:Nat},s₁.heap.get? b=some o->o.data=.dict es ep->H b=none:=fun {b o es ep} e d=>by
      cases q:H b with
      | none=>rfl
      | some u =>
        have e':b=a:=hA b (by rw [q];simp)
        subst e'
        rw [ha] at e;cases e
        have d':Data.seq vs.toArray _=Data.dict es ep:=d
        cases d'
    have nsK:∀ {b:Addr}{m:Str->Option Value},s₁.heap.Ns b m->(zjm s₁.heap H).Ns b m:=fun {b m} ⟨o,es,ep,e,d,r⟩=>⟨o,es,ep,base_of e (noA e d),d,r⟩
    have hKb:K.In (zjm s₁.heap H):=fun b o e=>base_of (KX b o e) (by
      cases q:H b with
      | none=>rfl
      | some u =>
        have e':b=a:=hA b (by rw [q];simp)
        subst e'
        rw [hK (by rw [q];simp)] at e;cases e)
    have hM:Mod K mg (zjm s₁.heap H):=⟨hKb,nsK hns,⟨mb,nsK hb,hbb⟩,let ⟨mc,h1,h2⟩:=hlim;⟨mc,nsK h1,h2⟩⟩
    have e0:zlm P w K mg (zjm s₁.heap H) callerA [] s₁ H:=⟨rfl,hM,fun b o e=>z1i e,Nat.le_of_eq (zwe _ _),trivial,fun b hb=>absurd (show b∈([]:List Addr) from hb) (by simp),hok,.of_eq hg⟩
    refine codeAny_mono ((F _ hKb (nsK hns)).run callerA [] s₁ H ⟨[.ref a],[]⟩ [.ref a] [.ref a] _ _ hr e0 (hbind s₁ (.ref a)) (.cons rfl .nil) (hsp H hO hS)) fun r s' h=>?_
    cases r with
    | error e=>exact (hCX H e s' h).elim
    | ok fl =>
      cases fl with
      | next=>exact False.elim h
      | brk=>exact False.elim h
      | cont=>exact False.elim h
      | ret u =>
        obtain ⟨v,H',os,bare,un,hok',r',q⟩:=h
        have q':v=.bl true:=q
        subst q'
        obtain rfl:u=Value.bool true:=r'
        refine ⟨rfl,OldK.of_keep fun b o e=>?_,os,bare⟩
        cases q:H b with
        | none=>exact un.keep b o e q (by intro z;exact absurd (show b∈([]:List Addr) from z) (by simp)) (by simp)
        | some u =>
          rcases hO b with z | ⟨ob,xs,z⟩
          · rw [q] at z;cases z
          · have z2:=un.frzs b ob _ z
            obtain ⟨e1,_⟩:=hok b _ z
            obtain ⟨e2,_⟩:=hok' b _ z2
            rw [e] at e1;cases e1
            exact e2
  cases hk:K.lookup a with
  | some o =>
    have e:=KX a o hk
    rw [ha] at e
    cases e
    refine core (fun _=>none) (fun _=>.inl rfl) (.inr ⟨_,vs.toArray,_,hk,rfl,rfl,rfl,by rw [List.size_toArray,lenV];exact hl,by simpa using rv⟩) (fun b u z=>by have z':(none:Option HO)=some u:=z;cases z') (fun b z=>absurd rfl z) fun z=>absurd rfl z
  | none =>
    refine core (fun b=>if b=a then some (.frz {cls:=.type "list",data:=.seq vs.toArray} (.lst (ns.map V.int))) else none) (fun b=>?_) (.inl (.inr ⟨{cls:=.type "list",data:=.seq vs.toArray},if_pos rfl⟩)) (fun b u z=>?_) (fun b z=>?_) fun _=>hk
    · by_cases hb:b=a
      · exact .inr ⟨_,_,if_pos hb⟩
      · exact .inl (if_neg hb)
    · by_cases hb:b=a
      · have z':=(if_pos hb).symm.trans z
        cases z'
        subst hb
        exact ⟨ha,by rw [List.length_map];exact hl,vs,_,rv,ha⟩
      · have z':=(if_neg hb).symm.trans z
        cases z'
    · by_cases hb:b=a
      · exact hb
      · exact absurd (if_neg hb) z
end L2
namespace L2
open PySem PySem.Spec PyProof.Rows
theorem zz7 {l:PySem.W.OpenLaw}{n k:Nat}{q:Program}{loose:List Str}{XP:(Str->Option Value)->Heap->Prop}{YP:World->Heap->Prop}{d:DefRec}{K:Params->PySem.W.Frag}{CX:World->CXT}{sp:World->Sp}{x:Str}
    (hn:l.most=some n) (hn2:n≤sizeLine) (hdf:d.params.defaults=[]) (hr:zbj k callerA)
    (hY:∀ (w:World) (h:Heap),YP w h->(K w.params).In h)
    (F:∀ (w:World) (mg:Str->Option Value) (fa:Addr) (h:Heap),(K w.params).In h->h.Ns mainGlobals mg->mg d.name=some (.ref fa)->
      ∃ fd : FuncData, (∀ (s : Shared) (u : Value), BindsTo s fd ⟨[u], []⟩ [(x, u)]) /\
        ∀ base:Heap,(K w.params).In base->base.Ns mainGlobals mg->zgi l.prog w (K w.params) mg base (CX w) k fa fd [x] (sp w))
    (hsp:∀ (w:World) (H:Hp) (a:Addr) (ns:List Int),ns.length≤n->Only H->SqL (K w.params) H a (ns.map V.int)->sp w [.ref a] H (fun v _=>v=.bl true) fun _ _ _=>False)
    (hCX:∀ (w:World) (H:Hp) (s:Shared) (e:Value) (s':Shared),CX w [] H s (fun _ _ _=>False) e s'->False) :
    PySem.W.WalkO q loose XP YP l.row.toRowW d [] (fun f vs=>PySem.call f vs):=by
  refine Att.attach_call hn hdf fun w s₀ s₁ mg mb fa o pm cd doc a vs ns G Y ho hd hcd hmg hobj hints hlen hg=>?_
  have KX:=hY w _ Y
  obtain ⟨fd,hb,hF⟩:=F w mg fa _ KX G.T.g hmg
  exact zyn KX G.T.g G.T.b G.T.builtins G.T.nolimit hg hobj hints (Nat.le_trans hlen hn2) hr hF hb (fun H hO hS=>hsp w H a ns hlen hO hS) fun H e s'=>hCX w H s₁ e s'
end L2
namespace L2
open PySem PySem.Spec PyProof.Rows
def zhx (s:Stmt):Arguments:=match s with
  | .FunctionDef _ a _ _ _ _ _ _ _ _=>a
  | _=>{posonlyargs:=[],args:=[],vararg:=none,kwonlyargs:=[],kw_defaults:=[],kwarg:=none,defaults:=[]}
def za9 (s:Stmt):List Stmt:=match s with
  | .FunctionDef _ _ b _ _ _ _ _ _ _=>b
  | _=>[]
def zag (s:Stmt):Scope:=match s with
  | .FunctionDef _ _ _ _ _ _ sc _ _ _=>sc
  | _=>{kind:=.function,names:=[],isGenerator:=false,isCoroutine:=false}
abbrev CX0:CXT:=fun _ _ _ _ _ _=>False
abbrev E0:XK:=fun _ _ _=>False
structure Fun (K:PySem.W.Frag) (x qual:Str) (st:Stmt) (f:Addr) (fd:FuncData):Prop where
  ex:∃ (oc:Value) (od:Option Addr) (kV doc pm:Value) (an:Option Addr) (cdv ct:Value) (osl:Array (Option Value)),
    fd=PySem.W.fnOf x qual (zhx st) (za9 st) (zag st) .none kV doc pm an cdv ct /\ K.lookup f=some ⟨oc,od,.func fd,osl⟩ /\ PySem.W.codeIn K cdv qual=true
  kp:PySem.W.keepIn K (.ref f)=true
section
variable {P:Program}{w:World}{K:PySem.W.Frag}{mg:Str->Option Value}{base:Heap}
theorem Fun.ok {x qual:Str}{st:Stmt}{f:Addr}{fd:FuncData}{N ps:List Str}{k:Nat}{sp:Sp} (F:Fun K x qual st f fd) (S:zbd N ps (zag st)) (len:∀ vs H Q E,sp vs H Q E->vs.length=ps.length)
    (hbody:∀ (cdv:Value) (A:Around) (outer:List Env) (s:Shared) (H:Hp) (vs:List V) (Q:VK) (E:XK),zbj k (A.deeper (envOfC qual (zag st) s.heap.objs.size f cdv))->sp vs H Q E->
      ∃ t,PSs (zb0 CX0 P w K mg base N qual (zag st) f cdv A outer s H E).nox (za9 st) t /\ t {nx:=fun _ H'=>Q .non H',rt:=Q} (start N vs) H):zgi P w K mg base CX0 (k+1) f fd ps sp:=by
  obtain ⟨oc,od,kV,doc,pm,an,cdv,ct,osl,rfl,lk,hcd⟩:=F.ex
  refine fn_of lk hcd S len fun A outer s H vs Q E hr hsp=>?_
  obtain ⟨t,h,q⟩:=hbody cdv A outer s H vs Q E hr hsp
  exact ⟨t,h.nox,q⟩
theorem Fun.binds {x qual:Str}{st:Stmt}{f:Addr}{fd:FuncData}{ps:List Str} (F:Fun K x qual st f fd)
    (h:∀ (kV doc pm:Value) (an:Option Addr) (cdv ct:Value) (us:List Value),us.length=ps.length->bindArgs (PySem.W.fnOf x qual (zhx st) (za9 st) (zag st) .none kV doc pm an cdv ct) ⟨us,[]⟩=pure (ps.zip us)):Binds K fd ps []:=by
  obtain ⟨oc,od,kV,doc,pm,an,cdv,ct,osl,rfl,lk,hcd⟩:=F.ex
  exact .all (h kV doc pm an cdv ct)
theorem fun_mk {x qual:Str}{st:Stmt}{f:Addr}{oc:Value}{od an:Option Addr}{osl:Array (Option Value)}{kV doc pm cdv ct:Value} (l:K.lookup f=some ⟨oc,od,.func (PySem.W.fnOf x qual (zhx st) (za9 st) (zag st) .none kV doc pm an cdv ct),osl⟩)
    (c:PySem.W.codeIn K cdv qual=true) (k:PySem.W.keepIn K (.ref f)=true):Fun K x qual st f (PySem.W.fnOf x qual (zhx st) (za9 st) (zag st) .none kV doc pm an cdv ct):=⟨⟨oc,od,kV,doc,pm,an,cdv,ct,osl,rfl,l,c⟩,k⟩
end
section
variable {X:Cx}
theorem pv (i:Nat) {x:Str}{pos:Pos} (hN:X.N[i]?=some x:=by rfl) (hv:Vis X.env.scope x:=by first | exact Or.inl rfl | exact Or.inr (Or.inl rfl) | exact Or.inr (Or.inr rfl)) (hd:(x==("__debug__":Str))=false:=by decide)
    (hcd:(x==("__classdict__":Str))=false:=by decide):PE X (.Name x pos) (tVar i):=zqg hN hv hd hcd
end
def ziz (H H':Hp):Prop:=∀ b o,H b=some o->H' b=some o
theorem ziz.refl (H:Hp):ziz H H:=fun _ _ h=>h
theorem ziz.trans {H H1 H2:Hp} (a:ziz H H1) (b:ziz H1 H2):ziz H H2:=fun c o h=>b c o (a c o h)
theorem ziz.free {H H':Hp} (e:ziz H H') {l:Addr} (h:H' l=Option.none):H l=Option.none:=by
  cases q:H l with
  | none=>rfl
  | some o =>
    rw [e l o q] at h
    cases h
theorem ziz.seq {K:PySem.W.Frag}{H H':Hp}{a:Addr}{xs:List V} (e:ziz H H') (h:SqL K H a xs):SqL K H' a xs:=by
  rcases h with (h | ⟨o,h⟩) | h
  · exact .inl (.inl (e _ _ h))
  · exact .inl (.inr ⟨o,e _ _ h⟩)
  · exact .inr h
end L2
namespace LD
open PySem
inductive D where
  | non | bl (b:Bool) | int (i:Int) | str (x:Str) | tup (ds:List D) | lst (ds:List D) | frz (ds:List D) | cell (k:Nat) | fn (f:Nat) | exc (c:Nat) (p:Option Int)
  deriving Inhabited
abbrev Mem:=List (List D)
abbrev Env:=List (Option D)
inductive Res (α:Type) where
  | ok (a:α) (M:Mem)
  | err (x:D) (M:Mem)
  | bad
def Res.bind {α β:Type} (r:Res α) (f:α->Mem->Res β):Res β:=match r with
  | .ok a M=>f a M
  | .err x M=>.err x M
  | .bad=>.bad
@[simp] theorem Res.bind_ok {α β:Type} (a:α) (M:Mem) (f:α->Mem->Res β):(Res.ok a M).bind f=f a M:=rfl
@[simp] theorem Res.bind_err {α β:Type} (x:D) (M:Mem) (f:α->Mem->Res β):(Res.err x M:Res α).bind f=.err x M:=rfl
@[simp] theorem Res.bind_bad {α β:Type} (f:α->Mem->Res β):(Res.bad:Res α).bind f=.bad:=rfl
inductive Bin where
  | add | sub | mul | fdiv | mod | pow
  deriving DecidableEq
inductive Cmp where
  | eq | ne | lt | le | gt | ge | isN | notN | isin | notin
  deriving DecidableEq
inductive Ty where
  | int | bool | str | tuple | list | own (c:Str)
  deriving DecidableEq
inductive Blt where
  | len | tuple | list (m:Bool) | listR (m:Bool) | all | sum | repr
  deriving DecidableEq
inductive Tgt where
  | one (i:Nat)
  | tup (l:List Nat)
def sz:Nat:=16777216
def zb5 (m:Bool) (ds:List D) (M:Mem):Res D:=if ds.length≤sz then (if m then .ok (.cell M.length) (M++[ds]) else .ok (.lst ds) M) else .bad
def zjk (ds:List D) (M:Mem):Res D:=if ds.length≤sz then .ok (.tup ds) M else .bad
def zcn (M:Mem):D->Option (List D)
  | .lst ds=>some ds
  | .tup ds=>some ds
  | .frz ds=>some ds
  | .cell k=>M[k]?
  | _=>none
def rdD (M:Mem):D->Option (List D)
  | .lst ds=>some ds
  | .frz ds=>some ds
  | .cell k=>M[k]?
  | _=>none
def zie (M:Mem):D->Option (List D)
  | .lst ds=>some ds
  | .cell k=>M[k]?
  | _=>none
def zaw:Nat->D->Bool
  | _,.non=>true
  | _,.bl _=>true
  | _,.int _=>true
  | _,.str x=>x.cps.all (· < 0x110000)
  | n+1,.tup ds=>ds.all (zaw n)
  | n+1,.lst ds=>ds.all (zaw n)
  | 0,.tup _=>false
  | 0,.lst _=>false
  | _,.frz _=>false
  | _,.cell _=>false
  | _,.fn _=>false
  | _,.exc _ _=>false
mutual
def zbp:D->D->Bool
  | .non,.non=>true
  | .bl a,.bl b=>a==b
  | .bl a,.int b=>(if a then 1 else 0)==b
  | .int a,.bl b=>a==(if b then 1 else 0)
  | .int a,.int b=>a==b
  | .str a,.str b=>a==b
  | .tup a,.tup b=>zkf a b
  | .lst a,.lst b=>zkf a b
  | _,_=>false
def zkf:List D->List D->Bool
  | [],[]=>true
  | a::r,b::t=>zbp a b&&zkf r t
  | [],_::_=>false
  | _::_,[]=>false
end
def eqD (a b:D):Option Bool:=if zaw 64 a&&zaw 64 b then some (zbp a b) else none
def view (M:Mem):D->D
  | .cell k => match M[k]? with
    | some ds=>.lst ds
    | none=>.cell k
  | .frz ds=>.lst ds
  | d=>d
def zet:Nat->Mem->D->D
  | 0,_,d=>d
  | n + 1, M, .cell k => match M[k]? with
    | some ds=>.lst (ds.map (zet n M))
    | none=>.cell k
  | n+1,M,.frz ds=>.lst (ds.map (zet n M))
  | n+1,M,.lst ds=>.lst (ds.map (zet n M))
  | n+1,M,.tup ds=>.tup (ds.map (zet n M))
  | _+1,_,d=>d
def eqM (M:Mem) (a b:D):Option Bool:=match eqD (view M a) (view M b) with
  | some r=>some r
  | none=>eqD (zet 64 M a) (zet 64 M b)
def zir (M:Mem):D->Option Bool
  | .non=>some false
  | .bl b=>some b
  | .int i=>some (i != 0)
  | .str x=>if x.cps.size≤sz then some (x.cps.size != 0) else none
  | .tup ds=>some (!ds.isEmpty)
  | .lst ds=>some (!ds.isEmpty)
  | .frz ds=>some (!ds.isEmpty)
  | .cell k=>(M[k]?).map fun ds=>!ds.isEmpty
  | .fn _=>none
  | .exc _ _=>none
def ixN (n:Nat) (i:Int):Option Nat:=if 0≤i then (if i < n then some i.toNat else none) else if -(n:Int)≤i then some (i+n).toNat else none
def zfj (m:Bool) (o:Bin) (a b:D) (M:Mem):Res D:=match o,a,b with
  | .add,.int i,.int j=>.ok (.int (i+j)) M
  | .add,.str x,.str y=>if x.cps.size+y.cps.size≤sz then .ok (.str ⟨x.cps++y.cps⟩) M else .bad
  | .add,.tup x,.tup y=>zjk (x++y) M
  | .add, a, b => match zie M a, zie M b with
    | some x,some y=>zb5 m (x++y) M
    | _,_=>.bad
  | .sub,.int i,.int j=>.ok (.int (i - j)) M
  | .mul,.int i,.int j=>if (-(2 ^ 64) < i /\ i < 2 ^ 64) \/ (-(2 ^ 64) < j /\ j < 2 ^ 64) then .ok (.int (i * j)) M else .bad
  | .mul,.tup x,.int j=>if x.length * j.toNat≤sz /\ -(2 ^ 63)≤j /\ j < 2 ^ 63 then .ok (.tup (List.replicate j.toNat x).flatten) M else .bad
  | .mul, a, .int j => match zie M a with
    | some x=>if x.length * j.toNat≤sz /\ -(2 ^ 63)≤j /\ j < 2 ^ 63 then zb5 m (List.replicate j.toNat x).flatten M else .bad
    | none=>.bad
  | .fdiv,.int i,.int j=>if 0 < j /\ j < 1073741824 then .ok (.int (i / j)) M else .bad
  | .mod,.int i,.int j=>if 0 < j then .ok (.int (i % j)) M else .bad
  | .pow,.int i,.int j=>if 0≤j /\ j≤1000000 /\ i.natAbs < 2 ^ 64 then .ok (.int (i ^ j.toNat)) M else .bad
  | _,_,_=>.bad
def inL (x:D) (ds:List D):Option Bool:=if zaw 64 x&&ds.all (zaw 63) then some (ds.any fun y=>zbp y x) else none
def zh4 (x y:Str):Bool:=!(Builtin.Str.occurrences y x 0 y.length 1).isEmpty
def zil:D->Bool
  | .non=>true
  | _=>false
def zb1 (o:Cmp) (a b:D) (M:Mem):Option Bool:=match o,a,b with
  | .eq,a,b=>eqM M a b
  | .ne,a,b=>(eqM M a b).map (!·)
  | .lt,.int i,.int j=>some (decide (i < j))
  | .le,.int i,.int j=>some (decide (i≤j))
  | .gt,.int i,.int j=>some (decide (j < i))
  | .ge,.int i,.int j=>some (decide (j≤i))
  | .isN,a,.non=>some (zil a)
  | .notN,a,.non=>some (!zil a)
  | .isin,.str x,.str y=>some (zh4 x y)
  | .notin,.str x,.str y=>some (!zh4 x y)
  | .isin,a,b=>(zcn M b).bind (inL (view M a))
  | .notin,a,b=>((zcn M b).bind (inL (view M a))).map (!·)
  | _,_,_=>none
def zg5 (a i:D) (M:Mem):Option D:=match a,i with
  | .str x,.int i=>if x.cps.size≤sz then (ixN x.cps.size i).bind fun j=>(x.cps[j]?).map fun c=>.str ⟨#[c]⟩ else none
  | a,.int i=>(zcn M a).bind fun ds=>(ixN ds.length i).bind fun j=>ds[j]?
  | _,_=>none
def sIx (n d:Nat):D->Option Nat
  | .non=>some d
  | .int v=>some (if v < 0 then (v+(n:Int)).toNat else min v.toNat n)
  | _=>none
def zc7:Bool->D->Bool
  | true,.int _=>true
  | false,.non=>true
  | _,_=>false
def cut {α:Type} (xs:List α) (lo hi:Nat):List α:=(xs.drop lo).take (hi - lo)
def zg4 (m:Bool) (a lo hi:D) (M:Mem):Res D:=match a with
  | .tup xs => match sIx xs.length 0 lo, sIx xs.length xs.length hi with
    | some l,some h=>.ok (.tup (cut xs l h)) M
    | _,_=>.bad
  | a => match rdD M a with
    | some xs => match sIx xs.length 0 lo, sIx xs.length xs.length hi with
      | some l,some h=>zb5 m (cut xs l h) M
      | _,_=>.bad
    | none=>.bad
def zcj (t:Ty):D->Option Bool
  | .non=>some false
  | .bl _=>some (t==.bool||t==.int)
  | .int _=>some (t==.int)
  | .str _=>some (t==.str)
  | .tup _=>some (t==.tuple)
  | .lst _=>some (t==.list)
  | .frz _=>some (t==.list)
  | .cell _=>some (t==.list)
  | .fn _=>none
  | .exc _ _=>none
def boolsOf:List D->Option (List Bool)
  | []=>some []
  | .bl b::r=>(boolsOf r).map (b::·)
  | _=>none
def intsOf:List D->Option (List Int)
  | []=>some []
  | .int b::r=>(intsOf r).map (b::·)
  | _=>none
def ze5 (f:Blt) (ds:List D) (M:Mem):Res D:=match f,ds with
  | .len,[.str x]=>if x.cps.size≤sz then .ok (.int x.cps.size) M else .bad
  | .len, [d] => match zcn M d with
    | some xs=>.ok (.int xs.length) M
    | none=>.bad
  | .tuple,[.tup xs]=>.ok (.tup xs) M
  | .tuple, [d] => match rdD M d with
    | some xs=>.ok (.tup xs) M
    | none=>.bad
  | .list m, [d] => match zcn M d with
    | some xs=>zb5 m xs M
    | none=>.bad
  | .listR m,[.int n]=>if n < 2 ^ 20 then zb5 m ((List.range n.toNat).map fun (k:Nat)=>D.int (k:Int)) M else .bad
  | .all, [d] => match rdD M d with
    | some xs => match boolsOf xs with
      | some bs=>.ok (.bl (bs.all id)) M
      | none=>.bad
    | none=>.bad
  | .sum, [d] => match rdD M d with
    | some xs => match intsOf xs with
      | some is=>.ok (.int is.sum) M
      | none=>.bad
    | none=>.bad
  | _,_=>.bad
def zfw:List Nat->List D->Env->Option Env
  | [],[],ρ=>some ρ
  | i::l,d::ds,ρ=>zfw l ds (ρ.set i (some d))
  | _,_,_=>none
def zde (t:Tgt) (d:D) (ρ:Env):Option Env:=match t,d with
  | .one i,d=>some (ρ.set i (some d))
  | .tup l,.tup ds=>zfw l ds ρ
  | .tup _,_=>none
abbrev Walk:=Mem->Option (List D)
def zfh:Nat->List D->List D
  | _,[]=>[]
  | k,d::r=>.tup [.int k,d]::zfh (k+1) r
def zhm:List D->List D->List D
  | a::r,b::t=>.tup [a,b]::zhm r t
  | _,_=>[]
def zip3L:List D->List D->List D->List D
  | a::r,b::t,c::q=>.tup [a,b,c]::zip3L r t q
  | _,_,_=>[]
def eachR {α:Type} (f:α->D->Mem->Res α):List D->α->Mem->Res α
  | [],a,M=>.ok a M
  | d::r,a,M=>(f a d M).bind (eachR f r)
def zfg {α:Type} (f:α->D->Mem->Res α) (w:Walk):Nat->Nat->α->Mem->Res α
  | 0,_,_,_=>.bad
  | n + 1, i, a, M => match w M with
    | none=>.bad
    | some ds => match ds[i]? with
      | none=>.ok a M
      | some d=>(f a d M).bind (zfg f w n (i+1))
def zes {α:Type} (f:α->D->Mem->Res α) (w:Walk) (a:α) (M:Mem):Res α:=zfg f w (((w M).getD []).length+1) 0 a M
def ofO {α:Type} (M:Mem):Option α->Res α
  | some a=>.ok a M
  | none=>.bad
@[simp] theorem zyd {α:Type} (M:Mem) (a:α):ofO M (some a)=.ok a M:=rfl
@[simp] theorem ofO_none {α:Type} (M:Mem):(ofO M none:Res α)=.bad:=rfl
inductive Fl where
  | next (ρ:Env)
  | ret (d:D)
  | exc (x:D) (ρ:Env)
end LD
namespace LD
open PySem PySem.Spec PyProof.Rows L2
structure Mu where
  pub:Nat->Option Addr
  priv:List Addr
def Mu.Mt (μ:Mu) (a:Addr):Prop:=(∃ k,μ.pub k=some a) \/ a∈μ.priv
abbrev Fa:=Nat->Option Addr
def KL (K:PySem.W.Frag) (a:Addr) (xs:List V):Prop:=
  ∃ (o:Obj) (its:Array Value) (n:Nat),K.lookup a=some o /\ o.cls=.type "list" /\ o.dict=none /\ o.data=.seq its n /\ its.size≤sizeLine /\ Vals xs its.toList
def XAt (C:Addr) (dx:Option Addr) (a:Addr) (h:Heap):Prop:=∃ o vs,h.get? a=some o /\ o.cls=.ref C /\ o.dict=dx /\ o.data=.fields vs /\ 1 < vs.size
def xfld (c:Nat):Str:=if c=1 then "number" else "place"
def XNum (H:Hp) (c:Nat) (dx:Option Addr):Option Int->Prop
  | none=>dx=none
  | some i=>∃ d,dx=some d /\ H d=some (.xd [(xfld c,.int i)])
def cid (c:Nat):Nat:=1000+c
section
variable (fa:Fa) (K:PySem.W.Frag) (μ:Mu) (H:Hp)
mutual
def Rep:D->V->Prop
  | .non,v=>v=.non
  | .bl b,v=>v=.bl b
  | .int i,v=>v=.int i
  | .str x,v=>v=.str x
  | .tup ds,v=>∃ a vs,v=.ref a /\ SqT K H a vs /\ za3 ds vs
  | .lst ds,v=>∃ a vs,v=.ref a /\ (H a=some (.lst vs) /\ ¬ μ.Mt a) /\ za3 ds vs
  | .frz ds,v=>∃ a vs,v=.ref a /\ ((∃ ob,H a=some (.frz ob (.lst vs))) \/ KL K a vs) /\ za3 ds vs
  | .cell k,v=>∃ a,v=.ref a /\ μ.pub k=some a
  | .fn f,v=>∃ a,v=.ref a /\ fa f=some a
  | .exc c p,v=>∃ a C dx,v=.ref a /\ fa (cid c)=some C /\ H a=some (.ext (XAt C dx a)) /\ XNum H c dx p
def za3:List D->List V->Prop
  | [],vs=>vs=[]
  | d::ds,vs=>∃ v r,vs=v::r /\ Rep d v /\ za3 ds r
end
end
def IsX (o:HO):Prop:=(∃ φ,o=.ext φ) \/ ∃ fs,o=.xd fs
structure ExtW (μ:Mu) (H:Hp) (μ':Mu) (H':Hp):Prop where
  mu:∀ k a,μ.pub k=some a->μ'.pub k=some a
  tups:∀ a vs,Rd H a (.tup vs)->Rd H' a (.tup vs)
  lsts:∀ a vs,H a=some (.lst vs)->¬ μ.Mt a->H' a=some (.lst vs) /\ ¬ μ'.Mt a
  frzs:∀ a ob u,H a=some (.frz ob u)->H' a=some (.frz ob u)
  exts:∀ a o,IsX o->H a=some o->H' a=some o
structure Ext (μ:Mu) (H:Hp) (μ':Mu) (H':Hp):Prop extends ExtW μ H μ' H' where
  pr:μ'.priv=μ.priv
  pk:∀ a∈μ.priv,H' a=H a
theorem ExtW.refl {μ:Mu}{H:Hp}:ExtW μ H μ H:=⟨fun _ _ h=>h,fun _ _ h=>h,fun _ _ h n=>⟨h,n⟩,fun _ _ _ h=>h,fun _ _ _ h=>h⟩
theorem ExtW.trans {μ μ1 μ2:Mu}{H H1 H2:Hp} (a:ExtW μ H μ1 H1) (b:ExtW μ1 H1 μ2 H2):ExtW μ H μ2 H2:=
  ⟨fun k x h=>b.mu k x (a.mu k x h),fun x vs h=>b.tups x vs (a.tups x vs h),fun x vs h n=>b.lsts x vs (a.lsts x vs h n).1 (a.lsts x vs h n).2,fun x ob u h=>b.frzs x ob u (a.frzs x ob u h),fun x o i h=>b.exts x o i (a.exts x o i h)⟩
theorem Ext.refl {μ:Mu}{H:Hp}:Ext μ H μ H:=⟨.refl,rfl,fun _ _=>rfl⟩
theorem Ext.trans {μ μ1 μ2:Mu}{H H1 H2:Hp} (a:Ext μ H μ1 H1) (b:Ext μ1 H1 μ2 H2):Ext μ H μ2 H2:=
  ⟨a.toExtW.trans b.toExtW,b.pr.trans a.pr,fun x hx=>(b.pk x (by rw [a.pr];exact hx)).trans (a.pk x hx)⟩
section
variable {fa:Fa}{K:PySem.W.Frag}{μ μ':Mu}{H H':Hp}
theorem ExtW.sqT {a:Addr}{vs:List V} (x:ExtW μ H μ' H') (h:SqT K H a vs):SqT K H' a vs:=h.elim (fun z=>.inl (x.tups a vs z)) .inr
mutual
theorem Rep.extW (x:ExtW μ H μ' H'):∀ {d:D}{v:V},Rep fa K μ H d v->Rep fa K μ' H' d v
  | .non,v,h=>h
  | .bl b,v,h=>h
  | .int i,v,h=>h
  | .str y,v,h=>h
  | .tup ds, v, h => by
    obtain ⟨a,vs,e,s,r⟩:=h
    exact ⟨a,vs,e,x.sqT s,za3.extW x r⟩
  | .lst ds, v, h => by
    obtain ⟨a,vs,e,s,r⟩:=h
    exact ⟨a,vs,e,x.lsts a vs s.1 s.2,za3.extW x r⟩
  | .frz ds, v, h => by
    obtain ⟨a,vs,e,s,r⟩:=h
    exact ⟨a,vs,e,s.elim (fun ⟨ob,z⟩=>.inl ⟨ob,x.frzs a ob _ z⟩) .inr,za3.extW x r⟩
  | .cell k, v, h => by
    obtain ⟨a,e,m⟩:=h
    exact ⟨a,e,x.mu k a m⟩
  | .fn f,v,h=>h
  | .exc c p, v, h => by
    obtain ⟨a,C,dx,e,f,g,n⟩:=h
    refine ⟨a,C,dx,e,f,x.exts _ _ (.inl ⟨_,rfl⟩) g,?_⟩
    cases p with
    | none=>exact n
    | some i=>exact let ⟨d,h1,h2⟩:=n;⟨d,h1,x.exts _ _ (.inr ⟨_,rfl⟩) h2⟩
theorem za3.extW (x:ExtW μ H μ' H'):∀ {ds:List D}{vs:List V},za3 fa K μ H ds vs->za3 fa K μ' H' ds vs
  | [],vs,h=>h
  | d :: ds, vs, h => by
    obtain ⟨v,r,e,p,q⟩:=h
    exact ⟨v,r,e,Rep.extW x p,za3.extW x q⟩
end
theorem Rep.ext (x:Ext μ H μ' H') {d:D}{v:V} (h:Rep fa K μ H d v):Rep fa K μ' H' d v:=Rep.extW x.toExtW h
theorem za3.ext (x:Ext μ H μ' H') {d:List D}{v:List V} (h:za3 fa K μ H d v):za3 fa K μ' H' d v:=za3.extW x.toExtW h
theorem za3.length:∀ {ds:List D}{vs:List V},za3 fa K μ H ds vs->vs.length=ds.length
  | [], vs, h => by
    have h:vs=[]:=h
    subst h;rfl
  | d :: ds, vs, h => by
    obtain ⟨v,r,e,p,q⟩:=h
    subst e
    simp [za3.length q]
theorem za3.get:∀ {ds:List D}{vs:List V}{i:Nat}{d:D},za3 fa K μ H ds vs->ds[i]?=some d->∃ v,vs[i]?=some v /\ Rep fa K μ H d v
  | [],_,_,_,_,e=>by simp at e
  | d :: ds, vs, 0, d', h, e => by
    obtain ⟨v,r,rfl,p,q⟩:=h
    simp at e;subst e
    exact ⟨v,rfl,p⟩
  | d :: ds, vs, i + 1, d', h, e => by
    obtain ⟨v,r,rfl,p,q⟩:=h
    obtain ⟨u,h1,h2⟩:=za3.get (i:=i) q (by simpa using e)
    exact ⟨u,by simpa using h1,h2⟩
theorem za3.append:∀ {ds es:List D}{vs ws:List V},za3 fa K μ H ds vs->za3 fa K μ H es ws->za3 fa K μ H (ds++es) (vs++ws)
  | [], _, vs, _, h, g => by
    have h:vs=[]:=h
    subst h;exact g
  | d :: ds, es, vs, ws, h, g => by
    obtain ⟨v,r,rfl,p,q⟩:=h
    exact ⟨v,r++ws,rfl,p,za3.append q g⟩
theorem za3.one {d:D}{v:V} (h:Rep fa K μ H d v):za3 fa K μ H [d] [v]:=⟨v,[],rfl,h,rfl⟩
theorem za3.drop:∀ (n:Nat) {ds:List D}{vs:List V},za3 fa K μ H ds vs->za3 fa K μ H (ds.drop n) (vs.drop n)
  | 0,_,_,h=>h
  | n + 1, [], vs, h => by
    have h:vs=[]:=h
    subst h;exact rfl
  | n + 1, d :: ds, vs, h => by
    obtain ⟨v,r,rfl,p,q⟩:=h
    exact za3.drop n q
theorem za3.take:∀ (n:Nat) {ds:List D}{vs:List V},za3 fa K μ H ds vs->za3 fa K μ H (ds.take n) (vs.take n)
  | 0,_,_,h=>rfl
  | n + 1, [], vs, h => by
    have h:vs=[]:=h
    subst h;exact rfl
  | n + 1, d :: ds, vs, h => by
    obtain ⟨v,r,rfl,p,q⟩:=h
    exact ⟨v,r.take n,rfl,p,za3.take n q⟩
theorem za3.set:∀ (n:Nat) {ds:List D}{vs:List V}{d:D}{v:V},za3 fa K μ H ds vs->Rep fa K μ H d v->za3 fa K μ H (ds.set n d) (vs.set n v)
  | _, [], vs, _, _, h, _ => by
    have h:vs=[]:=h
    subst h;exact rfl
  | 0, d :: ds, vs, _, v', h, g => by
    obtain ⟨v,r,rfl,p,q⟩:=h
    exact ⟨v',r,rfl,g,q⟩
  | n + 1, d :: ds, vs, _, v', h, g => by
    obtain ⟨v,r,rfl,p,q⟩:=h
    exact ⟨v,r.set n v',rfl,p,za3.set n q g⟩
theorem za3.reverse:∀ {ds:List D}{vs:List V},za3 fa K μ H ds vs->za3 fa K μ H ds.reverse vs.reverse
  | [], vs, h => by
    have h:vs=[]:=h
    subst h;exact rfl
  | d :: ds, vs, h => by
    obtain ⟨v,r,rfl,p,q⟩:=h
    rw [List.reverse_cons,List.reverse_cons]
    exact za3.append (za3.reverse q) (.one p)
theorem za3.rep:∀ (n:Nat) {ds:List D}{vs:List V},za3 fa K μ H ds vs->za3 fa K μ H (List.replicate n ds).flatten (List.replicate n vs).flatten
  | 0,_,_,_=>rfl
  | n + 1, ds, vs, h => by
    rw [List.replicate_succ,List.replicate_succ,List.flatten_cons,List.flatten_cons]
    exact h.append (za3.rep n h)
theorem za3.ints:∀ (ns:List Int),za3 fa K μ H (ns.map D.int) (ns.map V.int)
  | []=>rfl
  | n::ns=>⟨.int n,ns.map V.int,rfl,rfl,za3.ints ns⟩
end
structure RelM (fa:Fa) (K:PySem.W.Frag) (μ:Mu) (H:Hp) (M:Mem):Prop where
  at':∀ (k:Nat) (ds:List D),M[k]?=some ds->∃ a vs,μ.pub k=some a /\ H a=some (.lst vs) /\ za3 fa K μ H ds vs
  out:∀ (k:Nat),M.length≤k->μ.pub k=none
  inj:∀ j k a,μ.pub j=some a->μ.pub k=some a->j=k
  pv:∀ a∈μ.priv,(∃ vs,H a=some (.lst vs)) /\ ∀ k,μ.pub k≠some a
structure zbv (fa:Fa) (K:PySem.W.Frag) (μ:Mu) (H:Hp) (σ:L2.St) (ρ:Env):Prop where
  len:σ.length=ρ.length
  at':∀ (i:Nat) (d:D),ρ[i]?=some (some d)->∃ v,σ[i]?=some (some v) /\ Rep fa K μ H d v
section
variable {fa:Fa}{K:PySem.W.Frag}{μ μ':Mu}{H H':Hp}{σ:L2.St}{ρ:Env}{M:Mem}
theorem zbv.ext (h:zbv fa K μ H σ ρ) (x:Ext μ H μ' H'):zbv fa K μ' H' σ ρ:=
  ⟨h.len,fun i d e=>let ⟨v,h1,h2⟩:=h.at' i d e;⟨v,h1,h2.ext x⟩⟩
theorem zbv.set (h:zbv fa K μ H σ ρ) {i:Nat}{d:D}{v:V} (r:Rep fa K μ H d v):zbv fa K μ H (σ.set i (some v)) (ρ.set i (some d)):=by
  refine ⟨by simp [h.len],fun j d' e=>?_⟩
  by_cases hj:j=i
  · subst hj
    have hl:j < ρ.length:=by
      have:=(List.getElem?_eq_some_iff.mp e).1
      simpa using this
    rw [List.getElem?_set_self hl] at e
    cases e
    exact ⟨v,List.getElem?_set_self (by rw [h.len];exact hl),r⟩
  · rw [List.getElem?_set_ne (Ne.symm hj)] at e
    obtain ⟨u,h1,h2⟩:=h.at' j d' e
    exact ⟨u,by rw [List.getElem?_set_ne (Ne.symm hj)];exact h1,h2⟩
theorem zbv.extW (h:zbv fa K μ H σ ρ) (x:ExtW μ H μ' H'):zbv fa K μ' H' σ ρ:=
  ⟨h.len,fun i d e=>let ⟨v,h1,h2⟩:=h.at' i d e;⟨v,h1,h2.extW x⟩⟩
theorem RelM.mu_lt (h:RelM fa K μ H M) {k:Nat}{a:Addr} (e:μ.pub k=some a):∃ ds vs,M[k]?=some ds /\ H a=some (.lst vs) /\ za3 fa K μ H ds vs:=by
  by_cases hk:k < M.length
  · obtain ⟨a',vs,h1,h2,h3⟩:=h.at' k M[k] (by simp [hk])
    rw [e] at h1;cases h1
    exact ⟨_,vs,by simp [hk],h2,h3⟩
  · rw [h.out k (by omega)] at e;cases e
theorem RelM.fresh (h:RelM fa K μ H M) {p:Addr} (hp:H p=none):¬ μ.Mt p:=fun e=>by
  rcases e with ⟨k,e⟩ | e
  · obtain ⟨ds,vs,_,h2,_⟩:=h.mu_lt e
    rw [hp] at h2;cases h2
  · obtain ⟨⟨vs,h2⟩,_⟩:=h.pv p e
    rw [hp] at h2;cases h2
theorem RelM.pne (h:RelM fa K μ H M) {p a:Addr} (hp:H p=none) (ha:a∈μ.priv):a≠p:=fun e=>by
  obtain ⟨⟨vs,h2⟩,_⟩:=h.pv a ha
  rw [e,hp] at h2;cases h2
theorem Ext.alloc {p:Addr}{o:HO} (h:RelM fa K μ H M) (hp:H p=none):Ext μ H μ (upd H p o):=by
  have rd:∀ a u,Rd H a u->Rd (upd H p o) a u:=fun a u h=>by
    rcases h with h | ⟨ob,h⟩
    · exact .inl (by rw [za1 (zbh h hp)];exact h)
    · exact .inr ⟨ob,by rw [za1 (zbh h hp)];exact h⟩
  exact ⟨⟨fun _ _ h=>h,fun a vs h=>rd a _ h,fun a vs h n=>⟨by rw [za1 (zbh h hp)];exact h,n⟩,fun a ob u h=>by rw [za1 (zbh h hp)];exact h,fun a o _ h=>by rw [za1 (zbh h hp)];exact h⟩,rfl,fun a ha=>by rw [za1 (h.pne hp ha)]⟩
theorem RelM.alloc (h:RelM fa K μ H M) {p:Addr}{o:HO} (hp:H p=none):RelM fa K μ (upd H p o) M:=
  ⟨fun k ds e=>let ⟨a,vs,h1,h2,h3⟩:=h.at' k ds e;⟨a,vs,h1,by rw [za1 (zbh h2 hp)];exact h2,h3.ext (Ext.alloc h hp)⟩,h.out,h.inj,fun a ha=>⟨let ⟨⟨vs,e⟩,_⟩:=h.pv a ha;⟨vs,by rw [za1 (h.pne hp ha)];exact e⟩,(h.pv a ha).2⟩⟩
def zf5 (μ:Mu) (n:Nat) (p:Addr):Mu:=⟨fun k=>if k=n then some p else μ.pub k,μ.priv⟩
theorem Ext.cell {p:Addr}{o:HO} (h:RelM fa K μ H M) (hp:H p=none):Ext μ H (zf5 μ M.length p) (upd H p o):=by
  have rd:∀ a u,Rd H a u->Rd (upd H p o) a u:=fun a u h=>by
    rcases h with h | ⟨ob,h⟩
    · exact .inl (by rw [za1 (zbh h hp)];exact h)
    · exact .inr ⟨ob,by rw [za1 (zbh h hp)];exact h⟩
  refine ⟨⟨fun k a e=>?_,fun a vs g=>rd a _ g,fun a vs g n=>⟨by rw [za1 (zbh g hp)];exact g,fun e=>?_⟩,fun a ob u h=>by rw [za1 (zbh h hp)];exact h,fun a o _ h=>by rw [za1 (zbh h hp)];exact h⟩,rfl,fun a ha=>by rw [za1 (h.pne hp ha)]⟩
  · show (if k=M.length then some p else μ.pub k)=some a
    split
    · next q=>rw [q,h.out _ (Nat.le_refl _)] at e;cases e
    · exact e
  · rcases e with ⟨k,e⟩ | e
    · have e:(if k=M.length then some p else μ.pub k)=some a:=e
      split at e
      · cases e;exact zbh g hp rfl
      · exact n (.inl ⟨k,e⟩)
    · exact n (.inr e)
theorem RelM.cell (h:RelM fa K μ H M) {p:Addr}{ds:List D}{vs:List V} (hp:H p=none) (r:za3 fa K μ H ds vs) :
    RelM fa K (zf5 μ M.length p) (upd H p (.lst vs)) (M++[ds]):=by
  have x:Ext μ H (zf5 μ M.length p) (upd H p (.lst vs)):=Ext.cell h hp
  have np:=h.fresh hp
  refine ⟨fun k ds' e=>?_,fun k hk=>?_,fun j k a h1 h2=>?_,fun a ha=>?_⟩
  · by_cases hk:k < M.length
    · rw [List.getElem?_append_left hk] at e
      obtain ⟨a,ws,h1,h2,h3⟩:=h.at' k ds' e
      exact ⟨a,ws,x.mu k a h1,by rw [za1 (zbh h2 hp)];exact h2,h3.ext x⟩
    · have hk':k=M.length:=by
        have:=(List.getElem?_eq_some_iff.mp e).1
        simp at this;omega
      subst hk'
      rw [List.getElem?_append_right (Nat.le_refl _)] at e
      simp at e
      subst e
      exact ⟨p,vs,by simp [zf5],zc8,r.ext x⟩
  · simp at hk
    show (if k=M.length then some p else μ.pub k)=none
    rw [if_neg (by omega)]
    exact h.out k (by omega)
  · have h1:(if j=M.length then some p else μ.pub j)=some a:=h1
    have h2:(if k=M.length then some p else μ.pub k)=some a:=h2
    split at h1<;>split at h2
    · omega
    · cases h1;exact absurd (.inl ⟨k,h2⟩) np
    · cases h2;exact absurd (.inl ⟨j,h1⟩) np
    · exact h.inj j k a h1 h2
  · obtain ⟨⟨ws,e⟩,n⟩:=h.pv a ha
    refine ⟨⟨ws,by rw [za1 (h.pne hp ha)];exact e⟩,fun k e2=>?_⟩
    have e2:(if k=M.length then some p else μ.pub k)=some a:=e2
    split at e2
    · cases e2;exact h.pne hp ha rfl
    · exact n k e2
theorem ExtW.write {a:Addr}{vs ws:List V} (h2:H a=some (.lst vs)) (e:μ.Mt a):ExtW μ H μ (upd H a (.lst ws)):=by
  have ne:∀ b u,Rd H b u->(∀ xs,u≠.lst xs)->b≠a:=fun b u g nu q=>by
    subst q
    rcases g with g | ⟨ob,g⟩
    · rw [h2] at g;cases g;exact nu _ rfl
    · rw [h2] at g;cases g
  have rd:∀ b u,b≠a->Rd H b u->Rd (upd H a (.lst ws)) b u:=fun b u nb g=>by
    rcases g with g | ⟨ob,g⟩
    · exact .inl (by rw [za1 nb];exact g)
    · exact .inr ⟨ob,by rw [za1 nb];exact g⟩
  exact ⟨fun _ _ q=>q,fun b us g=>rd b _ (ne b _ g (fun xs q=>by cases q)) g,fun b us g n=>⟨by rw [za1 (fun q=>n (by rw [q];exact e))];exact g,n⟩,fun b ob u g=>by rw [za1 (fun q=>by rw [q,h2] at g;cases g)];exact g,fun b o i g=>by rw [za1 (fun q=>by rw [q,h2] at g;cases g;rcases i with ⟨_,i⟩ | ⟨_,i⟩<;>cases i)];exact g⟩
theorem Ext.write {k:Nat}{a:Addr}{vs ws:List V} (h:RelM fa K μ H M) (e:μ.pub k=some a):Ext μ H μ (upd H a (.lst ws)):=by
  obtain ⟨ds,vs,_,h2,_⟩:=h.mu_lt e
  exact ⟨ExtW.write h2 (.inl ⟨k,e⟩),rfl,fun b hb=>by rw [za1 (fun q=>(h.pv b hb).2 k (by rw [q];exact e))]⟩
theorem RelM.write (h:RelM fa K μ H M) {k:Nat}{a:Addr}{ds:List D}{ws:List V} (e:μ.pub k=some a) (r:za3 fa K μ H ds ws):RelM fa K μ (upd H a (.lst ws)) (M.set k ds):=by
  have x:Ext μ H μ (upd H a (.lst ws)):=Ext.write (vs:=ws) h e
  refine ⟨fun j es q=>?_,fun j hj=>h.out j (by simpa using hj),h.inj,fun b hb=>⟨let ⟨⟨vs,g⟩,_⟩:=h.pv b hb;⟨vs,by rw [x.pk b hb];exact g⟩,(h.pv b hb).2⟩⟩
  by_cases hj:j=k
  · subst hj
    have hl:j < M.length:=by have:=(List.getElem?_eq_some_iff.mp q).1;simpa using this
    rw [List.getElem?_set_self hl] at q
    cases q
    exact ⟨a,ws,e,zc8,r.ext x⟩
  · rw [List.getElem?_set_ne (Ne.symm hj)] at q
    obtain ⟨b,vs,h1,h2,h3⟩:=h.at' j es q
    have nb:b≠a:=fun z=>hj (h.inj j k a (z ▸ h1) e)
    exact ⟨b,vs,h1,by rw [za1 nb];exact h2,h3.ext x⟩
end
def okE {α:Type} (r:Res α) (k:α->Mem->Prop):Prop:=match r with
  | .ok a M=>k a M
  | _=>False
theorem zbe {α β:Type}{r:Res α}{f:α->Mem->Res β}{k:β->Mem->Prop} (h:okE (r.bind f) k):∃ a M,r=.ok a M /\ okE (f a M) k:=by
  cases r with
  | ok a M=>exact ⟨a,M,rfl,h⟩
  | err=>exact h.elim
  | bad=>exact h.elim
theorem zkp {α:Type}{M:Mem}{o:Option α}{k:α->Mem->Prop} (h:okE (ofO M o) k):∃ a,o=some a /\ k a M:=by
  cases o with
  | none=>exact h.elim
  | some a=>exact ⟨a,rfl,h⟩
theorem zbu {α:Type}{r:Res α}{k k':α->Mem->Prop} (h:okE r k) (m:∀ a M,k a M->k' a M):okE r k':=by
  cases r with
  | ok a M=>exact m a M h
  | err=>exact h
  | bad=>exact h
section
variable (fa:Fa) (K:PySem.W.Frag)
def zbt (μ:Mu) (H:Hp) (Q:VK) (d:D) (M':Mem):Prop:=∀ v H' μ',Ext μ H μ' H'->RelM fa K μ' H' M'->Rep fa K μ' H' d v->Q v H'
def tE (g:Env->Mem->Res D):TE:=fun σ H Q=>∃ μ ρ M,zbv fa K μ H σ ρ /\ RelM fa K μ H M /\ okE (g ρ M) (zbt fa K μ H Q)
def tT (g:Env->Mem->Res Bool):TT:=fun σ H Q=>∃ μ ρ M,zbv fa K μ H σ ρ /\ RelM fa K μ H M /\ okE (g ρ M) fun b M'=>∀ H' μ',Ext μ H μ' H'->RelM fa K μ' H' M'->Q b H'
def tA (g:Env->Mem->Res (List D)):TA:=fun σ H Q=>∃ μ ρ M,zbv fa K μ H σ ρ /\ RelM fa K μ H M /\ okE (g ρ M) fun ds M'=>∀ vs H' μ',Ext μ H μ' H'->RelM fa K μ' H' M'->za3 fa K μ' H' ds vs->Q vs H'
end
def Fly (New:Addr->Prop) (C:Addr) (dx:Option Addr) (a:Addr) (h:Heap) (H:Hp):Prop:=New a /\ H a=none /\ ∃ o vs,h.get? a=some o /\ o.cls=.ref C /\ o.dict=dx /\ o.data=.fields vs /\
  (vs[1]?=some .none \/ ∃ T oT ts,vs[1]?=some (.ref T) /\ T≠a /\ New T /\ H T=none /\ h.get? T=some oT /\ oT.data=.fields ts /\ ts[3]?=some .none)
def NewX (X:Cx) (b:Addr):Prop:=X.s₀.heap.get? b=none /\ ∀ p∈X.pn,p.1≠b
def XW (fa:Fa) (X:Cx) (μ:Mu) (H:Hp) (x:D) (ρ:Env) (M:Mem):Prop:=∀ pins σ' H' μ' s' a C dx c p,Inv X pins σ' H' s'->Ext μ H μ' H'->zbv fa X.K μ' H' σ' ρ->RelM fa X.K μ' H' M->x=.exc c p->fa (cid c)=some C->XNum H' c dx p->Fly (NewX X) C dx a s'.heap H'->X.xe (.ref a) s'
def FlP (fa:Fa) (X:Cx) (μ:Mu) (H:Hp) (D:Ends):Fl->Mem->Prop
  | .next ρ',M'=>∀ σ' H' μ',Ext μ H μ' H'->zbv fa X.K μ' H' σ' ρ'->RelM fa X.K μ' H' M'->D.nx σ' H'
  | .ret d,M'=>zbt fa X.K μ H D.rt d M'
  | .exc x ρ',M'=>XW fa X μ H x ρ' M'
def tF (fa:Fa) (X:Cx) (g:Env->Mem->Res Fl):TS:=fun D σ H=>∃ μ ρ M,zbv fa X.K μ H σ ρ /\ RelM fa X.K μ H M /\ okE (g ρ M) (FlP fa X μ H D)
theorem XW.ext {fa:Fa}{X:Cx}{μ μ':Mu}{H H':Hp}{x:D}{ρ:Env}{M:Mem} (h:XW fa X μ H x ρ M) (y:Ext μ H μ' H'):XW fa X μ' H' x ρ M:=fun pins σ1 H1 μ1 s1 a C dx c p I e=>h pins σ1 H1 μ1 s1 a C dx c p I (y.trans e)
section
variable {fa:Fa}{K:PySem.W.Frag}{μ μ':Mu}{H H':Hp}{Q:VK}
theorem zbt.ext {d:D}{M:Mem} (h:zbt fa K μ H Q d M) (x:Ext μ H μ' H'):zbt fa K μ' H' Q d M:=fun v H'' μ'' y m r=>h v H'' μ'' (x.trans y) m r
theorem okW {r:Res D} (h:okE r (zbt fa K μ H Q)) (x:Ext μ H μ' H'):okE r (zbt fa K μ' H' Q):=zbu h fun _ _ w=>w.ext x
end
theorem zco {X:Cx}{e:PySem.Expr}{t t':TE} (h:PE X e t) (i:∀ σ H Q,t' σ H Q->t σ H Q):PE X e t':=fun pins s σ H Q I q=>h pins s σ H Q I (i σ H Q q)
theorem zj5 {X:Cx}{e:PySem.Expr}{t t':TT} (h:PT X e t) (i:∀ σ H Q,t' σ H Q->t σ H Q):PT X e t':=fun pins s σ H Q I q=>h pins s σ H Q I (i σ H Q q)
theorem zvf {X:Cx}{e:PySem.Expr}{t t':TT} (h:PW X e t) (i:∀ σ H Q,t' σ H Q->t σ H Q):PW X e t':=fun w pins s σ H Q I q=>h w pins s σ H Q I (i σ H Q q)
theorem zvn {X:Cx}{e:List PySem.Expr}{t t':TA} (h:PA X e t) (i:∀ σ H Q,t' σ H Q->t σ H Q):PA X e t':=fun pos pins s σ H Q I q=>h pos pins s σ H Q I (i σ H Q q)
theorem zgr {X:Cx}{e:PySem.Stmt}{t t':TS} (h:PS X e t) (i:∀ D σ H,t' D σ H->t D σ H):PS X e t':=fun pins s σ H D I q=>h pins s σ H D I (i D σ H q)
theorem zsg {X:Cx}{e:List PySem.Stmt}{t t':TS} (h:PSs X e t) (i:∀ D σ H,t' D σ H->t D σ H):PSs X e t':=fun pins s σ H D I q=>h pins s σ H D I (i D σ H q)
section
variable {fa:Fa}{K:PySem.W.Frag}{μ:Mu}{H:Hp}{σ:L2.St}{ρ:Env}{M:Mem}
theorem t1 {g:Env->Mem->Res D}{β:Type}{f:D->Mem->Res β}{P:β->Mem->Prop}{R:V->Hp->Prop} (hE:zbv fa K μ H σ ρ) (hM:RelM fa K μ H M) (h:okE ((g ρ M).bind f) P)
    (k:∀ x M1 v H1 μ1,Ext μ H μ1 H1->zbv fa K μ1 H1 σ ρ->RelM fa K μ1 H1 M1->Rep fa K μ1 H1 x v->okE (f x M1) P->R v H1):tE fa K g σ H R:=by
  obtain ⟨x,M1,e,q⟩:=zbe h
  refine ⟨μ,ρ,M,hE,hM,?_⟩
  rw [e]
  exact fun v H1 μ1 x1 m1 r1=>k x M1 v H1 μ1 x1 (hE.ext x1) m1 r1 q
theorem tT1 {g:Env->Mem->Res Bool}{β:Type}{f:Bool->Mem->Res β}{P:β->Mem->Prop}{R:Bool->Hp->Prop} (hE:zbv fa K μ H σ ρ) (hM:RelM fa K μ H M) (h:okE ((g ρ M).bind f) P)
    (k:∀ b M1 H1 μ1,Ext μ H μ1 H1->zbv fa K μ1 H1 σ ρ->RelM fa K μ1 H1 M1->okE (f b M1) P->R b H1):tT fa K g σ H R:=by
  obtain ⟨b,M1,e,q⟩:=zbe h
  refine ⟨μ,ρ,M,hE,hM,?_⟩
  rw [e]
  exact fun H1 μ1 x1 m1=>k b M1 H1 μ1 x1 (hE.ext x1) m1 q
theorem tA1 {g:Env->Mem->Res (List D)}{β:Type}{f:List D->Mem->Res β}{P:β->Mem->Prop}{R:List V->Hp->Prop} (hE:zbv fa K μ H σ ρ) (hM:RelM fa K μ H M) (h:okE ((g ρ M).bind f) P)
    (k:∀ ds M1 vs H1 μ1,Ext μ H μ1 H1->zbv fa K μ1 H1 σ ρ->RelM fa K μ1 H1 M1->za3 fa K μ1 H1 ds vs->okE (f ds M1) P->R vs H1):tA fa K g σ H R:=by
  obtain ⟨ds,M1,e,q⟩:=zbe h
  refine ⟨μ,ρ,M,hE,hM,?_⟩
  rw [e]
  exact fun v H1 μ1 x1 m1 r1=>k ds M1 v H1 μ1 x1 (hE.ext x1) m1 r1 q
end
end LD
namespace LD
open PySem PySem.Spec PyProof.Rows L2
mutual
def toPy:D->PyData
  | .non=>.none
  | .bl b=>.bool b
  | .int i=>.int i
  | .str x=>.str x
  | .tup ds=>.tuple (zdd ds)
  | .lst ds=>.list (zdd ds)
  | .frz _=>.none
  | .cell _=>.none
  | .fn _=>.none
  | .exc _ _=>.none
def zdd:List D->List PyData
  | []=>[]
  | d::r=>toPy d::zdd r
end
theorem zmz:∀ (n:Nat) (d:D),zaw n d=true->(toPy d).canLay0=true /\ (toPy d).depth≤n:=by
  have all:∀ (n:Nat),(∀ d,zaw n d=true->(toPy d).canLay0=true /\ (toPy d).depth≤n)->∀ ds:List D,ds.all (zaw n)=true->PyData.canLayAll0 (zdd ds)=true /\ PyData.depthAll (zdd ds)≤n:=by
    intro n h ds
    induction ds with
    | nil=>intro _;simp [zdd,PyData.canLayAll0,PyData.depthAll]
    | cons d r ih =>
      intro q
      simp only [List.all_cons,Bool.and_eq_true] at q
      obtain ⟨h1,h2⟩:=h d q.1
      obtain ⟨h3,h4⟩:=ih q.2
      simp only [zdd,PyData.canLayAll0,PyData.depthAll,h1,h3,Bool.and_self,true_and]
      omega
  intro n
  induction n with
  | zero =>
    intro d h
    cases d with
    | str x=>exact ⟨by simpa [toPy,PyData.canLay0,PyData.strOk,zaw] using h,by simp [toPy,PyData.depth]⟩
    | tup _=>simp [zaw] at h
    | lst _=>simp [zaw] at h
    | frz _=>simp [zaw] at h
    | cell _=>simp [zaw] at h
    | fn _=>simp [zaw] at h
    | exc y p=>simp [zaw] at h
    | _=>exact ⟨by simp [toPy,PyData.canLay0],by simp [toPy,PyData.depth]⟩
  | succ n ih =>
    intro d h
    cases d with
    | str x=>exact ⟨by simpa [toPy,PyData.canLay0,PyData.strOk,zaw] using h,by simp [toPy,PyData.depth]⟩
    | tup ds =>
      obtain ⟨h1,h2⟩:=all n ih ds (by simpa [zaw] using h)
      simp only [toPy,PyData.canLay0,PyData.depth,h1,true_and]
      omega
    | lst ds =>
      obtain ⟨h1,h2⟩:=all n ih ds (by simpa [zaw] using h)
      simp only [toPy,PyData.canLay0,PyData.depth,h1,true_and]
      omega
    | frz _=>simp [zaw] at h
    | cell _=>simp [zaw] at h
    | fn _=>simp [zaw] at h
    | exc y p=>simp [zaw] at h
    | _=>exact ⟨by simp [toPy,PyData.canLay0],by simp [toPy,PyData.depth]⟩
theorem zih {d:D} (h:zaw 64 d=true):SeqAt.shaped (toPy d)=true:=by
  obtain ⟨h1,h2⟩:=zmz 64 d h
  simp [SeqAt.shaped,h1,h2]
mutual
theorem zku:∀ (n m:Nat) (a b:D),zaw n a=true->zaw m b=true->PyData.eqv (toPy a) (toPy b)=zbp a b
  | n, m, .tup a, .tup b, ha, hb => by
    cases n with
    | zero=>simp [zaw] at ha
    | succ n =>
      cases m with
      | zero=>simp [zaw] at hb
      | succ m =>
        simp only [toPy,PyData.eqv,zbp]
        exact zlj n m a b (by simpa [zaw] using ha) (by simpa [zaw] using hb)
  | n, m, .lst a, .lst b, ha, hb => by
    cases n with
    | zero=>simp [zaw] at ha
    | succ n =>
      cases m with
      | zero=>simp [zaw] at hb
      | succ m =>
        simp only [toPy,PyData.eqv,zbp]
        exact zlj n m a b (by simpa [zaw] using ha) (by simpa [zaw] using hb)
  | n,m,.frz _,_,ha,hb=>by cases n<;>simp [zaw] at ha
  | n,m,.cell _,_,ha,hb=>by cases n<;>simp [zaw] at ha
  | n,m,.fn _,_,ha,hb=>by cases n<;>simp [zaw] at ha
  | n,m,.exc _ _,_,ha,hb=>by cases n<;>simp [zaw] at ha
  | n,m,_,.frz _,ha,hb=>by cases m<;>simp [zaw] at hb
  | n,m,_,.cell _,ha,hb=>by cases m<;>simp [zaw] at hb
  | n,m,_,.fn _,ha,hb=>by cases m<;>simp [zaw] at hb
  | n,m,_,.exc _ _,ha,hb=>by cases m<;>simp [zaw] at hb
  | _,_,.non,.non,_,_=>by simp [toPy,PyData.eqv,zbp]
  | _,_,.non,.bl _,_,_=>by simp [toPy,PyData.eqv,zbp]
  | _,_,.non,.int _,_,_=>by simp [toPy,PyData.eqv,zbp]
  | _,_,.non,.str _,_,_=>by simp [toPy,PyData.eqv,zbp]
  | _,_,.non,.tup _,_,_=>by simp [toPy,PyData.eqv,zbp]
  | _,_,.non,.lst _,_,_=>by simp [toPy,PyData.eqv,zbp]
  | _,_,.bl _,.non,_,_=>by simp [toPy,PyData.eqv,zbp]
  | _,_,.bl _,.bl _,_,_=>by simp [toPy,PyData.eqv,zbp]
  | _,_,.bl _,.int _,_,_=>by simp [toPy,PyData.eqv,zbp]
  | _,_,.bl _,.str _,_,_=>by simp [toPy,PyData.eqv,zbp]
  | _,_,.bl _,.tup _,_,_=>by simp [toPy,PyData.eqv,zbp]
  | _,_,.bl _,.lst _,_,_=>by simp [toPy,PyData.eqv,zbp]
  | _,_,.int _,.non,_,_=>by simp [toPy,PyData.eqv,zbp]
  | _,_,.int _,.bl _,_,_=>by simp [toPy,PyData.eqv,zbp]
  | _,_,.int _,.int _,_,_=>by simp [toPy,PyData.eqv,zbp]
  | _,_,.int _,.str _,_,_=>by simp [toPy,PyData.eqv,zbp]
  | _,_,.int _,.tup _,_,_=>by simp [toPy,PyData.eqv,zbp]
  | _,_,.int _,.lst _,_,_=>by simp [toPy,PyData.eqv,zbp]
  | _,_,.str _,.non,_,_=>by simp [toPy,PyData.eqv,zbp]
  | _,_,.str _,.bl _,_,_=>by simp [toPy,PyData.eqv,zbp]
  | _,_,.str _,.int _,_,_=>by simp [toPy,PyData.eqv,zbp]
  | _,_,.str _,.str _,_,_=>by simp [toPy,PyData.eqv,zbp]
  | _,_,.str _,.tup _,_,_=>by simp [toPy,PyData.eqv,zbp]
  | _,_,.str _,.lst _,_,_=>by simp [toPy,PyData.eqv,zbp]
  | _,_,.tup _,.non,_,_=>by simp [toPy,PyData.eqv,zbp]
  | _,_,.tup _,.bl _,_,_=>by simp [toPy,PyData.eqv,zbp]
  | _,_,.tup _,.int _,_,_=>by simp [toPy,PyData.eqv,zbp]
  | _,_,.tup _,.str _,_,_=>by simp [toPy,PyData.eqv,zbp]
  | _,_,.tup _,.lst _,_,_=>by simp [toPy,PyData.eqv,zbp]
  | _,_,.lst _,.non,_,_=>by simp [toPy,PyData.eqv,zbp]
  | _,_,.lst _,.bl _,_,_=>by simp [toPy,PyData.eqv,zbp]
  | _,_,.lst _,.int _,_,_=>by simp [toPy,PyData.eqv,zbp]
  | _,_,.lst _,.str _,_,_=>by simp [toPy,PyData.eqv,zbp]
  | _,_,.lst _,.tup _,_,_=>by simp [toPy,PyData.eqv,zbp]
theorem zlj:∀ (n m:Nat) (a b:List D),a.all (zaw n)=true->b.all (zaw m)=true->PyData.eqvAll (zdd a) (zdd b)=zkf a b
  | n,m,[],[],_,_=>by simp [zdd,PyData.eqvAll,zkf]
  | n,m,[],_::_,_,_=>by simp [zdd,PyData.eqvAll,zkf]
  | n,m,_::_,[],_,_=>by simp [zdd,PyData.eqvAll,zkf]
  | n, m, x :: a, y :: b, ha, hb => by
    simp only [List.all_cons,Bool.and_eq_true] at ha hb
    simp only [zdd,PyData.eqvAll,zkf]
    rw [zku n m x y ha.1 hb.1,zlj n m a b ha.2 hb.2]
end
section
variable {fa:Fa}{X:Cx}{μ:Mu}{H:Hp}{σ:L2.St}{pins:List (Addr×Obj)}{s:Shared}{M:Mem}
theorem zib {d:D}{v:V}{ds:List D} (hM:RelM fa X.K μ H M) (h:Rep fa X.K μ H d v) (e:zie M d=some ds):∃ a vs,v=.ref a /\ H a=some (.lst vs) /\ za3 fa X.K μ H ds vs:=by
  cases d with
  | lst xs =>
    cases e
    obtain ⟨a,vs,e,s,r⟩:=h
    exact ⟨a,vs,e,s.1,r⟩
  | cell k =>
    obtain ⟨a,rfl,hk⟩:=h
    obtain ⟨b,vs,h1,h2,h3⟩:=hM.at' k ds e
    rw [hk] at h1;cases h1
    exact ⟨a,vs,rfl,h2,h3⟩
  | _=>cases e
theorem zcf {d:D}{v:V}{ds:List D} (hM:RelM fa X.K μ H M) (h:Rep fa X.K μ H d v) (e:rdD M d=some ds):∃ a vs,v=.ref a /\ SqL X.K H a vs /\ za3 fa X.K μ H ds vs:=by
  cases d with
  | lst xs =>
    obtain ⟨a,vs,h1,h2,h3⟩:=zib (ds:=ds) hM h e
    exact ⟨a,vs,h1,.of h2,h3⟩
  | frz xs =>
    cases e
    obtain ⟨a,vs,e,s,r⟩:=h
    exact ⟨a,vs,e,s.elim (fun z=>.inl (.inr z)) .inr,r⟩
  | cell k =>
    obtain ⟨a,vs,h1,h2,h3⟩:=zib (ds:=ds) hM h e
    exact ⟨a,vs,h1,.of h2,h3⟩
  | _=>cases e
theorem zia {d:D}{v:V}{ds:List D} (hM:RelM fa X.K μ H M) (h:Rep fa X.K μ H d v) (e:zcn M d=some ds):∃ a vs,v=.ref a /\ (SqL X.K H a vs \/ SqT X.K H a vs) /\ za3 fa X.K μ H ds vs:=by
  cases d with
  | tup xs =>
    cases e
    obtain ⟨a,vs,rfl,h1,h2⟩:=h
    exact ⟨a,vs,rfl,.inr h1,h2⟩
  | lst xs =>
    obtain ⟨a,vs,h1,h2,h3⟩:=zcf (ds:=ds) hM h e
    exact ⟨a,vs,h1,.inl h2,h3⟩
  | frz xs =>
    obtain ⟨a,vs,h1,h2,h3⟩:=zcf (ds:=ds) hM h e
    exact ⟨a,vs,h1,.inl h2,h3⟩
  | cell k =>
    obtain ⟨a,vs,h1,h2,h3⟩:=zcf (ds:=ds) hM h e
    exact ⟨a,vs,h1,.inl h2,h3⟩
  | _=>cases e
mutual
theorem zev (I:Inv X pins σ H s):∀ (d:D) (n:Nat) (v:V) (u:Value),zaw n d=true->Rep fa X.K μ H d v->RelV v u->∃ as,Reads s.heap u (toPy d) as
  | .non, n, v, u, _, h, r => by
    obtain rfl:v=.non:=h
    obtain rfl:u=Value.none:=r
    exact ⟨_,.none⟩
  | .bl b, n, v, u, _, h, r => by
    obtain rfl:v=.bl b:=h
    obtain rfl:u=Value.bool b:=r
    exact ⟨_,.bool b⟩
  | .int i, n, v, u, _, h, r => by
    obtain rfl:v=.int i:=h
    obtain ⟨t,rfl⟩:=r
    exact ⟨_,.int i t⟩
  | .str x, n, v, u, _, h, r => by
    obtain rfl:v=.str x:=h
    obtain ⟨t,rfl⟩:=r
    exact ⟨_,.str x t⟩
  | .tup ds, n, v, u, hp, h, r => by
    cases n with
    | zero=>simp [zaw] at hp
    | succ n =>
      obtain ⟨a,vs,rfl,h1,h2⟩:=h
      obtain rfl:u=Value.ref a:=r
      obtain ⟨its,rv,⟨o,e1,e2,k,e3⟩,_⟩:=I.tuple h1
      obtain ⟨as,q⟩:=zf4 I ds n vs its (by simpa [zaw] using hp) h2 rv
      exact ⟨_,.tuple e1 e2 e3 (by simpa using q)⟩
  | .lst ds, n, v, u, hp, h, r => by
    cases n with
    | zero=>simp [zaw] at hp
    | succ n =>
      obtain ⟨a,vs,rfl,h1,h2⟩:=h
      obtain rfl:u=Value.ref a:=r
      obtain ⟨its,rv,⟨o,k,e1,e2,e4,e3⟩,_⟩:=I.list (SqL.of h1.1)
      obtain ⟨as,q⟩:=zf4 I ds n vs its (by simpa [zaw] using hp) h2 rv
      exact ⟨_,.list e1 e2 e3 (by simpa using q)⟩
  | .frz k,n,v,u,hp,_,_=>by cases n<;>simp [zaw] at hp
  | .cell k,n,v,u,hp,_,_=>by cases n<;>simp [zaw] at hp
  | .fn f,n,v,u,hp,_,_=>by cases n<;>simp [zaw] at hp
  | .exc _ _,n,v,u,hp,_,_=>by cases n<;>simp [zaw] at hp
theorem zf4 (I:Inv X pins σ H s):∀ (ds:List D) (n:Nat) (vs:List V) (us:List Value),ds.all (zaw n)=true->za3 fa X.K μ H ds vs->Vals vs us->∃ as,ReadsAll s.heap us (zdd ds) as
  | [], n, vs, us, _, h, r => by
    obtain rfl:vs=[]:=h
    cases r
    exact ⟨_,.nil⟩
  | d :: ds, n, vs, us, hp, h, r => by
    obtain ⟨v,vr,rfl,h1,h2⟩:=h
    simp only [List.all_cons,Bool.and_eq_true] at hp
    cases r with
    | cons r1 r2 =>
      obtain ⟨as,q1⟩:=zev I d n v _ hp.1 h1 r1
      obtain ⟨bs,q2⟩:=zf4 I ds n vr _ hp.2 h2 r2
      exact ⟨_,.cons q1 q2⟩
end
theorem zz8 {d:D}{n:Nat} (h:zaw n (view M d)=true):(view M d=d /\ zaw n d=true) \/ ∃ ds,rdD M d=some ds /\ view M d=.lst ds:=by
  cases d with
  | cell k =>
    cases e:M[k]? with
    | none =>
      have ev:view M (.cell k)=.cell k:=by simp [view,e]
      rw [ev] at h
      cases n<;>simp [zaw] at h
    | some ds=>exact .inr ⟨ds,e,by simp [view,e]⟩
  | frz ds=>exact .inr ⟨ds,rfl,rfl⟩
  | _=>exact .inl ⟨rfl,h⟩
theorem zjf (I:Inv X pins σ H s) (hM:RelM fa X.K μ H M) {d:D}{v:V}{u:Value} (hp:zaw 64 (view M d)=true) (h:Rep fa X.K μ H d v) (r:RelV v u):∃ as,Reads s.heap u (toPy (view M d)) as:=by
  rcases zz8 hp with ⟨e,hp'⟩ | ⟨ds,e,ev⟩
  · rw [e];exact zev I _ 64 v u hp' h r
  · rw [ev] at hp ⊢
    obtain ⟨a,vs,rfl,h1,h2⟩:=zcf (ds:=ds) hM h e
    obtain rfl:u=Value.ref a:=r
    obtain ⟨its,rv,⟨o,k,e1,e2,e4,e3⟩,_⟩:=I.list h1
    obtain ⟨as,q⟩:=zf4 I ds 63 vs its (by simpa [zaw] using hp) h2 rv
    exact ⟨_,.list e1 e2 e3 (by simpa using q)⟩
theorem zio (I:Inv X pins σ H s) (hM:RelM fa X.K μ H M):∀ (n m:Nat) (d:D) (v:V) (u:Value),zaw m (zet n M d)=true->Rep fa X.K μ H d v->RelV v u->∃ as,Reads s.heap u (toPy (zet n M d)) as
  | 0,m,d,v,u,hp,h,r=>zev I d m v u hp h r
  | n + 1, m, d, v, u, hp, h, r => by
    have ih:=zio I hM n
    have all:∀ (m:Nat) (ds:List D) (vs:List V) (us:List Value),(ds.map (zet n M)).all (zaw m)=true->za3 fa X.K μ H ds vs->Vals vs us->∃ as,ReadsAll s.heap us (zdd (ds.map (zet n M))) as:=by
      intro m ds
      induction ds with
      | nil =>
        intro vs us _ h r
        obtain rfl:vs=[]:=h
        cases r
        exact ⟨_,.nil⟩
      | cons d ds ihl =>
        intro vs us hp h r
        obtain ⟨v,vr,rfl,h1,h2⟩:=h
        simp only [List.map_cons,List.all_cons,Bool.and_eq_true] at hp
        cases r with
        | cons r1 r2 =>
          obtain ⟨as,q1⟩:=ih m d v _ hp.1 h1 r1
          obtain ⟨bs,q2⟩:=ihl vr _ hp.2 h2 r2
          exact ⟨_,.cons q1 q2⟩
    have lst:∀ (ds:List D) (a:Addr) (vs:List V),zaw m (.lst (ds.map (zet n M)))=true->SqL X.K H a vs->za3 fa X.K μ H ds vs->u=.ref a->∃ as,Reads s.heap u (toPy (.lst (ds.map (zet n M)))) as:=by
      intro ds a vs hp h1 h2 e
      subst e
      cases m with
      | zero=>simp [zaw] at hp
      | succ m =>
        obtain ⟨its,rv,⟨o,k,e1,e2,e4,e3⟩,_⟩:=I.list h1
        obtain ⟨as,q⟩:=all m ds vs its (by simpa [zaw] using hp) h2 rv
        exact ⟨_,.list e1 e2 e3 (by simpa using q)⟩
    cases d with
    | cell k =>
      cases e:M[k]? with
      | none =>
        have ev:zet (n+1) M (.cell k)=.cell k:=by simp [zet,e]
        rw [ev] at hp
        cases m<;>simp [zaw] at hp
      | some ds =>
        have ev:zet (n+1) M (.cell k)=.lst (ds.map (zet n M)):=by simp [zet,e]
        rw [ev] at hp ⊢
        obtain ⟨a,vs,rfl,h1,h2⟩:=zcf (ds:=ds) hM h e
        exact lst ds a vs hp h1 h2 r
    | frz ds =>
      obtain ⟨a,vs,rfl,h1,h2⟩:=zcf (ds:=ds) hM h rfl
      exact lst ds a vs hp h1 h2 r
    | lst ds =>
      obtain ⟨a,vs,rfl,h1,h2⟩:=zcf (ds:=ds) hM h rfl
      exact lst ds a vs hp h1 h2 r
    | tup ds =>
      have hp:zaw m (.tup (ds.map (zet n M)))=true:=hp
      cases m with
      | zero=>simp [zaw] at hp
      | succ m =>
        obtain ⟨a,vs,rfl,h1,h2⟩:=h
        obtain rfl:u=Value.ref a:=r
        obtain ⟨its,rv,⟨o,e1,e2,k,e3⟩,_⟩:=I.tuple h1
        obtain ⟨as,q⟩:=all m ds vs its (by simpa [zaw] using hp) h2 rv
        exact ⟨_,.tuple e1 e2 e3 (by simpa using q)⟩
    | non=>exact zev I .non m v u hp h r
    | bl b=>exact zev I (.bl b) m v u hp h r
    | int i=>exact zev I (.int i) m v u hp h r
    | str x=>exact zev I (.str x) m v u hp h r
    | fn f=>exact zev I (.fn f) m v u hp h r
    | exc y p=>exact zev I (.exc y p) m v u hp h r
abbrev Rm (X:Cx):Prop:=X.A.units+100 < cLine
def zgq (fa:Fa) (K:PySem.W.Frag) (o:Cmp):R2:=fun x y H Q=>∃ μ M dx dy b,RelM fa K μ H M /\ Rep fa K μ H dx x /\ Rep fa K μ H dy y /\ zb1 o dx dy M=some b /\ Q (.bl b) H
theorem zq5 {a b:D}{k:Bool} (h:eqD a b=some k):zaw 64 a=true /\ zaw 64 b=true /\ k=zbp a b:=by
  unfold eqD at h
  split at h
  · next q=>
    simp only [Bool.and_eq_true] at q
    exact ⟨q.1,q.2,(Option.some.inj h).symm⟩
  · cases h
theorem zof (I:Inv X pins σ H s) (hM:RelM fa X.K μ H M) {a b:D}{x y:V}{v u:Value}{k:Bool} (h:eqM M a b=some k) (h1:Rep fa X.K μ H a x) (h2:Rep fa X.K μ H b y) (rx:RelV x v) (ry:RelV y u) :
    ∃ c e as bs,zaw 64 c=true /\ zaw 64 e=true /\ k=zbp c e /\ Reads s.heap v (toPy c) as /\ Reads s.heap u (toPy e) bs:=by
  unfold eqM at h
  cases q:eqD (view M a) (view M b) with
  | some r =>
    rw [q] at h
    cases h
    obtain ⟨p1,p2,e⟩:=zq5 q
    obtain ⟨as,r1⟩:=zjf I hM p1 h1 rx
    obtain ⟨bs,r2⟩:=zjf I hM p2 h2 ry
    exact ⟨_,_,as,bs,p1,p2,e,r1,r2⟩
  | none =>
    rw [q] at h
    obtain ⟨p1,p2,e⟩:=zq5 h
    obtain ⟨as,r1⟩:=zio I hM 64 64 a x v p1 h1 rx
    obtain ⟨bs,r2⟩:=zio I hM 64 64 b y u p2 h2 ry
    exact ⟨_,_,as,bs,p1,p2,e,r1,r2⟩
theorem c_eq (hu:Rm X):OpR X (compareOp .Eq) (zgq fa X.K .eq):=by
  intro pins s σ H x y v u Q I rx ry h
  obtain ⟨μ,M,dx,dy,b,hM,h1,h2,e,q⟩:=h
  obtain ⟨_,_,as,bs,p1,p2,rfl,r1,r2⟩:=zof I hM (show eqM M dx dy=some b from e) h1 h2 rx ry
  refine SeqAt.compareEq_shaped r1 r2 (zih p1) (zih p2) (by unfold Rm at hu;omega) ?_
  rw [zku 64 64 _ _ p1 p2]
  exact ⟨.bl _,H,I,rfl,q⟩
theorem c_ne (hu:Rm X):OpR X (compareOp .NotEq) (zgq fa X.K .ne):=by
  intro pins s σ H x y v u Q I rx ry h
  obtain ⟨μ,M,dx,dy,b,hM,h1,h2,e,q⟩:=h
  have e:(eqM M dx dy).map (!·)=some b:=e
  cases e':eqM M dx dy with
  | none=>rw [e'] at e;cases e
  | some k =>
    rw [e'] at e
    obtain rfl:(!k)=b:=Option.some.inj e
    obtain ⟨_,_,as,bs,p1,p2,rfl,r1,r2⟩:=zof I hM e' h1 h2 rx ry
    refine SeqAt.compareNe_shaped r1 r2 (zih p1) (zih p2) (by unfold Rm at hu;omega) ?_
    rw [zku 64 64 _ _ p1 p2]
    exact ⟨.bl _,H,I,rfl,q⟩
end
end LD
namespace LD
open PySem PySem.Spec PyProof.Rows L2
section
variable {fa:Fa}{X:Cx}{μ:Mu}{H:Hp}{σ:L2.St}{pins:List (Addr×Obj)}{s:Shared}{M:Mem}
theorem zhf {f:Value->Value->Sem Value}{r r':R2} (h:OpR X f r) (i:∀ x y H Q,r' x y H Q->r x y H Q):OpR X f r':=fun pins s σ H x y v u Q I rx ry q=>h pins s σ H x y v u Q I rx ry (i x y H Q q)
theorem zjs {f:Value}{r r':List V->Hp->VK->Prop} (h:zdn X f r) (i:∀ xs H Q,r' xs H Q->r xs H Q):zdn X f r':=fun pins s σ H xs us Q I rx q=>h pins s σ H xs us Q I rx (i xs H Q q)
theorem zkw {o:Cmp}{g:Int->Int->Bool} (ho:o=.lt \/ o=.le \/ o=.gt \/ o=.ge) (hg:∀ i j,zb1 o (.int i) (.int j) []=some (g i j)) {x y:V}{Q:VK} (h:zgq fa X.K o x y H Q) :
    ∃ i j,x=.int i /\ y=.int j /\ Q (.bl (g i j)) H:=by
  obtain ⟨μ,M,dx,dy,b,hM,h1,h2,e,q⟩:=h
  have key:∀ i j,dx=.int i->dy=.int j->∃ i j,x=.int i /\ y=.int j /\ Q (.bl (g i j)) H:=fun i j e1 e2=>by
    subst e1 e2
    have e3:zb1 o (.int i) (.int j) M=some (g i j):=by
      have:=hg i j
      rcases ho with rfl | rfl | rfl | rfl<;>exact this
    rw [e] at e3
    have e4:=Option.some.inj e3
    subst e4
    exact ⟨i,j,h1,h2,q⟩
  rcases ho with rfl | rfl | rfl | rfl<;>
  · cases dx with
    | int i=>cases dy<;>first | exact key _ _ rfl rfl | cases e
    | _=>cases e
theorem c_lt:OpR X (compareOp .Lt) (zgq fa X.K .lt):=zhf op_lt fun x y H Q h=>zkw (.inl rfl) (fun _ _=>rfl) h
theorem c_le:OpR X (compareOp .LtE) (zgq fa X.K .le):=zhf op_le fun x y H Q h=>zkw (.inr (.inl rfl)) (fun _ _=>rfl) h
theorem c_gt:OpR X (compareOp .Gt) (zgq fa X.K .gt):=zhf op_gt fun x y H Q h=>zkw (.inr (.inr (.inl rfl))) (fun _ _=>rfl) h
theorem c_ge:OpR X (compareOp .GtE) (zgq fa X.K .ge):=zhf op_ge fun x y H Q h=>zkw (.inr (.inr (.inr rfl))) (fun _ _=>rfl) h
theorem zse {d:D}{v:V}{K:PySem.W.Frag} (h:Rep fa K μ H d v):decide (v=.non)=zil d:=by
  cases d with
  | non=>obtain rfl:v=.non:=h;rfl
  | bl b=>obtain rfl:v=.bl b:=h;rfl
  | int b=>obtain rfl:v=.int b:=h;rfl
  | str b=>obtain rfl:v=.str b:=h;rfl
  | tup b=>obtain ⟨a,vs,rfl,_⟩:=h;rfl
  | lst b=>obtain ⟨a,vs,rfl,_⟩:=h;rfl
  | frz b=>obtain ⟨a,vs,rfl,_⟩:=h;rfl
  | cell b=>obtain ⟨a,rfl,_⟩:=h;rfl
  | fn b=>obtain ⟨a,rfl,_⟩:=h;rfl
  | exc y p=>obtain ⟨a,_,_,rfl,_⟩:=h;rfl
theorem c_isN:OpR X (compareOp .Is) (zgq fa X.K .isN):=zhf op_isN fun x y H Q h=>by
  obtain ⟨μ,M,dx,dy,b,hM,h1,h2,e,q⟩:=h
  cases dy<;>first | cases (show (none:Option Bool)=some b from e) | skip
  refine ⟨h2,?_⟩
  rw [zse h1]
  have e:some (zil dx)=some b:=e
  rw [Option.some.inj e];exact q
theorem c_notN:OpR X (compareOp .IsNot) (zgq fa X.K .notN):=zhf z1e fun x y H Q h=>by
  obtain ⟨μ,M,dx,dy,b,hM,h1,h2,e,q⟩:=h
  cases dy<;>first | cases (show (none:Option Bool)=some b from e) | skip
  refine ⟨h2,?_⟩
  rw [zse h1]
  have e:some (!zil dx)=some b:=e
  rw [Option.some.inj e];exact q
theorem zrl (x:D) (hx:zaw 64 x=true):∀ (ds:List D),ds.all (zaw 63)=true->((zdd ds).any fun y=>PyData.eqv y (toPy x))=ds.any fun y=>zbp y x
  | [],_=>rfl
  | d :: r, h => by
    simp only [List.all_cons,Bool.and_eq_true] at h
    simp only [zdd,List.any_cons,zku 63 64 d x h.1 hx,zrl x hx r h.2]
theorem zpr (n:Nat):∀ ds:List D,ds.all (zaw n)=true->PyData.canLayAll0 (zdd ds)=true /\ PyData.depthAll (zdd ds)≤n
  | [],_=>by simp [zdd,PyData.canLayAll0,PyData.depthAll]
  | d :: r, h => by
    simp only [List.all_cons,Bool.and_eq_true] at h
    obtain ⟨h1,h2⟩:=zmz n d h.1
    obtain ⟨h3,h4⟩:=zpr n r h.2
    simp only [zdd,PyData.canLayAll0,PyData.depthAll,h1,h3,Bool.and_self,true_and]
    omega
theorem zu7 (I:Inv X pins σ H s) (hM:RelM fa X.K μ H M) {d:D}{v:V}{u:Value}{ds:List D} (hp:ds.all (zaw 63)=true) (h:Rep fa X.K μ H d v) (r:RelV v u) (e:zcn M d=some ds) :
    (∃ as,Reads s.heap u (.list (zdd ds)) as) \/ ∃ as,Reads s.heap u (.tuple (zdd ds)) as:=by
  obtain ⟨a,vs,rfl,h1,h2⟩:=zia (ds:=ds) hM h e
  obtain rfl:u=Value.ref a:=r
  rcases h1 with h1 | h1
  · obtain ⟨its,rv,⟨o,k,e1,e2,e4,e3⟩,_⟩:=I.list h1
    obtain ⟨as,q⟩:=zf4 I ds 63 vs its hp h2 rv
    exact .inl ⟨_,.list e1 e2 e3 (by simpa using q)⟩
  · obtain ⟨its,rv,⟨o,e1,e2,k,e3⟩,_⟩:=I.tuple h1
    obtain ⟨as,q⟩:=zf4 I ds 63 vs its hp h2 rv
    exact .inr ⟨_,.tuple e1 e2 e3 (by simpa using q)⟩
theorem zwc (hu:Rm X) {x y:V}{v u:Value}{dx dy:D}{ds:List D}{b:Bool}{Q:Value->Shared->Prop} (I:Inv X pins σ H s) (hM:RelM fa X.K μ H M) (h1:Rep fa X.K μ H dx x) (h2:Rep fa X.K μ H dy y) (rx:RelV x v) (ry:RelV y u)
    (e1:zcn M dy=some ds) (e2:inL (view M dx) ds=some b) (neg:Bool) (q:Q (.bool (if neg then !b else b)) s):wpAny (model X.prog X.w) X.A (compareOp (if neg then .NotIn else .In) v u) Q X.xe s:=by
  unfold inL at e2
  split at e2
  · next z=>
    simp only [Bool.and_eq_true] at z
    obtain ⟨p1,p2⟩:=z
    have e3:=Option.some.inj e2
    subst e3
    obtain ⟨as,r1⟩:=zjf I hM p1 h1 rx
    obtain ⟨c1,d1⟩:=zmz 64 _ p1
    obtain ⟨c2,d2⟩:=zpr 63 ds p2
    have hu':X.A.units+1+min (PyData.depthAll (zdd ds)) (toPy (view M dx)).depth < cLine:=by unfold Rm at hu;omega
    rw [<- zrl _ p1 ds p2] at q
    rcases zu7 I hM p2 h2 ry e1 with ⟨bs,r2⟩ | ⟨bs,r2⟩
    · cases neg
      · exact SeqAt.in_list_reads r2 r1 c2 c1 hu' q
      · exact SeqAt.notIn_list_reads r2 r1 c2 c1 hu' q
    · cases neg
      · exact SeqAt.in_tuple_reads r2 r1 c2 c1 hu' q
      · exact SeqAt.notIn_tuple_reads r2 r1 c2 c1 hu' q
  · cases e2
theorem c_in (hu:Rm X):OpR X (compareOp .In) (zgq fa X.K .isin):=by
  intro pins s σ H x y v u Q I rx ry h
  obtain ⟨μ,M,dx,dy,b,hM,h1,h2,e,q⟩:=h
  have gen:(zcn M dy).bind (inL (view M dx))=some b->wpAny (model X.prog X.w) X.A (compareOp .In v u) (EP X pins σ Q) X.xe s:=fun e=>by
    cases e1:zcn M dy with
    | none=>rw [e1] at e;cases e
    | some ds =>
      rw [e1] at e
      exact zwc hu I hM h1 h2 rx ry e1 e false ⟨.bl b,H,I,rfl,q⟩
  by_cases hs:(∃ a,dx=.str a) /\ ∃ c,dy=.str c
  · obtain ⟨⟨a,rfl⟩,c,rfl⟩:=hs
    have e:some (zh4 a c)=some b:=e
    have e':=Option.some.inj e
    subst e'
    exact zvu pins s σ H x y v u Q I rx ry ⟨a,c,h1,h2,q⟩
  · refine gen ?_
    cases dx<;>first | exact e | (cases dy<;>first | exact e | exact absurd ⟨⟨_,rfl⟩,_,rfl⟩ hs)
theorem z2h (hu:Rm X):OpR X (compareOp .NotIn) (zgq fa X.K .notin):=by
  intro pins s σ H x y v u Q I rx ry h
  obtain ⟨μ,M,dx,dy,b,hM,h1,h2,e,q⟩:=h
  have gen:((zcn M dy).bind (inL (view M dx))).map (!·)=some b->wpAny (model X.prog X.w) X.A (compareOp .NotIn v u) (EP X pins σ Q) X.xe s:=fun e=>by
    cases e1:zcn M dy with
    | none=>rw [e1] at e;cases e
    | some ds =>
      rw [e1] at e
      cases e2:inL (view M dx) ds with
      | none=>rw [Option.bind_some,e2] at e;cases e
      | some k =>
        rw [Option.bind_some,e2] at e
        have e':=Option.some.inj e
        subst e'
        exact zwc hu I hM h1 h2 rx ry e1 e2 true ⟨.bl _,H,I,rfl,q⟩
  by_cases hs:(∃ a,dx=.str a) /\ ∃ c,dy=.str c
  · obtain ⟨⟨a,rfl⟩,c,rfl⟩:=hs
    have e:some (!zh4 a c)=some b:=e
    have e':=Option.some.inj e
    subst e'
    exact zqn pins s σ H x y v u Q I rx ry ⟨a,c,h1,h2,q⟩
  · refine gen ?_
    cases dx<;>first | exact e | (cases dy<;>first | exact e | exact absurd ⟨⟨_,rfl⟩,_,rfl⟩ hs)
def zb6:Cmp->CmpOp
  | .eq=>.Eq | .ne=>.NotEq | .lt=>.Lt | .le=>.LtE | .gt=>.Gt | .ge=>.GtE | .isN=>.Is | .notN=>.IsNot | .isin=>.In | .notin=>.NotIn
theorem zkx (hu:Rm X):∀ o:Cmp,OpR X (compareOp (zb6 o)) (zgq fa X.K o)
  | .eq=>c_eq hu | .ne=>c_ne hu | .lt=>c_lt | .le=>c_le | .gt=>c_gt | .ge=>c_ge | .isN=>c_isN | .notN=>c_notN | .isin=>c_in hu | .notin=>z2h hu
def zj4 (fa:Fa) (K:PySem.W.Frag) (m:Bool) (o:Bin):R2:=fun x y H Q=>∃ μ M dx dy,RelM fa K μ H M /\ Rep fa K μ H dx x /\ Rep fa K μ H dy y /\ okE (zfj m o dx dy M) (zbt fa K μ H Q)
theorem zbm {Q:VK}{d:D}{v:V} (hM:RelM fa X.K μ H M) (h:zbt fa X.K μ H Q d M) (r:Rep fa X.K μ H d v):Q v H:=h v H μ .refl hM r
theorem zgf {Q:VK}{m:Bool}{ds:List D}{vs:List V} (hM:RelM fa X.K μ H M) (r:za3 fa X.K μ H ds vs) (h:okE (zb5 m ds M) (zbt fa X.K μ H Q)):ds.length≤sz /\ ∀ p,H p=none->Q (.ref p) (upd H p (.lst vs)):=by
  unfold zb5 at h
  split at h
  · next hz=>
    refine ⟨hz,fun p hp=>?_⟩
    cases m with
    | true =>
      have h:zbt fa X.K μ H Q (.cell M.length) (M++[ds]):=h
      exact h (.ref p) _ (zf5 μ M.length p) (Ext.cell hM hp) (hM.cell hp r) ⟨p,rfl,by simp [zf5]⟩
    | false =>
      have h:zbt fa X.K μ H Q (.lst ds) M:=h
      exact h (.ref p) _ μ (Ext.alloc hM hp) (hM.alloc hp) ⟨p,vs,rfl,⟨zc8,hM.fresh hp⟩,r.ext (Ext.alloc hM hp)⟩
  · exact h.elim
theorem zg0 {Q:VK}{ds:List D}{vs:List V} (hM:RelM fa X.K μ H M) (r:za3 fa X.K μ H ds vs) (h:zbt fa X.K μ H Q (.tup ds) M):∀ p,H p=none->Q (.ref p) (upd H p (.tup vs)):=fun p hp=>
  h (.ref p) _ μ (Ext.alloc hM hp) (hM.alloc hp) ⟨p,vs,rfl,.of zc8,r.ext (Ext.alloc hM hp)⟩
theorem ze3:sz=sizeLine:=by rw [sizeLine_eq];rfl
theorem zya:OpR X (binaryOp .Add) (fun x y H Q=>∃ a b ys,x=.ref a /\ y=.ref b /\ SqT X.K H a [] /\ SqT X.K H b ys /\ Q (.ref b) H):=by
  intro pins s σ H x y v u Q I rx ry h
  obtain ⟨a,b,ys,rfl,rfl,ha,hb,q⟩:=h
  cases rx
  cases ry
  obtain ⟨its,r1,p1,_⟩:=I.tuple ha
  obtain ⟨its2,r2,p2,_⟩:=I.tuple hb
  cases r1
  obtain ⟨⟨cls,dd,data,sl⟩,ho,hc,n,hd⟩:=id p1
  obtain ⟨⟨cls2,dd2,data2,sl2⟩,ho2,hc2,n2,hd2⟩:=id p2
  simp only at hc hd hc2 hd2
  subst hc hd hc2 hd2
  exact concat_meets ⟨_,ho,rfl⟩ ⟨_,ho2,rfl⟩ noFill_tuple_add seq_tuple_add PySem.F.slot_tuple_add PySem.F.entry_tuple_add (PySem.F.args_tuple_add_2 _ _)
      (tuple_addW0 a b #[] its2.toArray n n2 dd dd2 sl sl2 rfl) ⟨ho,ho2,⟨.ref b,H,I,rfl,q⟩⟩
theorem zy2 {m:Bool}{x y:V}{v u:Value}{dx dy:D}{Q:VK} (I:Inv X pins σ H s) (hM:RelM fa X.K μ H M) (h1:Rep fa X.K μ H dx x) (h2:Rep fa X.K μ H dy y) (rx:RelV x v) (ry:RelV y u)
    (h:okE (match zie M dx,zie M dy with | some x,some y=>zb5 m (x++y) M | _,_=>.bad) (zbt fa X.K μ H Q)):wpAny (model X.prog X.w) X.A (binaryOp .Add v u) (EP X pins σ Q) X.xe s:=by
  cases e1:zie M dx with
  | none=>rw [e1] at h;exact h.elim
  | some xs =>
    cases e2:zie M dy with
    | none=>rw [e1,e2] at h;exact h.elim
    | some ys =>
      rw [e1,e2] at h
      obtain ⟨a,vs,rfl,ha,ra⟩:=zib hM h1 e1
      obtain ⟨b,ws,rfl,hb,rb⟩:=zib hM h2 e2
      obtain ⟨hz,k⟩:=zgf hM (ra.append rb) h
      refine op_cat pins s σ H _ _ v u Q I rx ry ⟨a,b,vs,ws,rfl,rfl,ha,hb,?_,k⟩
      rw [ra.length,rb.length,<- List.length_append,<- ze3];exact hz
theorem b_add (m:Bool):OpR X (binaryOp .Add) (zj4 fa X.K m .add):=by
  intro pins s σ H x y v u Q I rx ry h
  obtain ⟨μ,M,dx,dy,hM,h1,h2,h⟩:=h
  have hi:∀ i j,dx=.int i->dy=.int j->wpAny (model X.prog X.w) X.A (binaryOp .Add v u) (EP X pins σ Q) X.xe s:=fun i j e1 e2=>by
    subst e1 e2
    exact op_add pins s σ H x y v u Q I rx ry ⟨i,j,h1,h2,zbm (v:=.int (i+j)) hM h rfl⟩
  have hs:∀ i j,dx=.str i->dy=.str j->wpAny (model X.prog X.w) X.A (binaryOp .Add v u) (EP X pins σ Q) X.xe s:=fun i j e1 e2=>by
    subst e1 e2
    have h:okE (if i.cps.size+j.cps.size≤sz then .ok (.str ⟨i.cps++j.cps⟩) M else .bad) (zbt fa X.K μ H Q):=h
    split at h
    · next hz=>exact zti pins s σ H x y v u Q I rx ry ⟨i,j,h1,h2,by rw [<- ze3];exact hz,zbm (v:=.str ⟨i.cps++j.cps⟩) hM h rfl⟩
    · exact h.elim
  have ht:∀ i j,dx=.tup i->dy=.tup j->wpAny (model X.prog X.w) X.A (binaryOp .Add v u) (EP X pins σ Q) X.xe s:=fun i j e1 e2=>by
    subst e1 e2
    have h:okE (if (i++j).length≤sz then .ok (.tup (i++j)) M else .bad) (zbt fa X.K μ H Q):=h
    split at h
    · next hz=>
      have h:zbt fa X.K μ H Q (.tup (i++j)) M:=h
      obtain ⟨a,vs,e1,ha,ra⟩:=id h1
      obtain ⟨b,ws,e2,hb,rb⟩:=id h2
      by_cases h0:i=[]
      · subst h0
        obtain rfl:vs=[]:=ra
        exact zya pins s σ H x y v u Q I rx ry ⟨a,b,ws,e1,e2,ha,hb,zbm hM h ⟨b,ws,rfl,hb,rb⟩⟩
      · have hv:vs≠[]:=fun z=>h0 (by have:=ra.length;rw [z] at this;exact List.length_eq_zero_iff.mp this.symm)
        refine z1g pins s σ H x y v u Q I rx ry ⟨a,b,vs,ws,e1,e2,ha,hb,hv,?_,fun z=>?_,fun _=>zg0 hM (ra.append rb) h⟩
        · rw [ra.length,rb.length,<- List.length_append,<- ze3];exact hz
        · subst z
          have ej:j=[]:=List.length_eq_zero_iff.mp rb.length.symm
          subst ej
          exact zbm hM h ⟨a,vs,rfl,ha,by simpa using ra⟩
    · exact h.elim
  cases dx<;>cases dy<;>first | exact hi _ _ rfl rfl | exact hs _ _ rfl rfl | exact ht _ _ rfl rfl | exact zy2 (m:=m) I hM h1 h2 rx ry h
theorem b_int {op:Operator}{o:Bin}{m:Bool}{C:Int->Int->Prop}{g:Int->Int->Int} (hr:OpR X (binaryOp op) (rI C fun i j=>.int (g i j)))
    (hD:∀ dx dy M (P:D->Mem->Prop),okE (zfj m o dx dy M) P->∃ i j,dx=.int i /\ dy=.int j /\ C i j /\ P (.int (g i j)) M):OpR X (binaryOp op) (zj4 fa X.K m o):=zhf hr fun x y H Q h=>by
  obtain ⟨μ,M,dx,dy,hM,h1,h2,h⟩:=h
  obtain ⟨i,j,rfl,rfl,c,q⟩:=hD dx dy M _ h
  exact ⟨i,j,h1,h2,c,zbm (v:=.int (g i j)) hM q rfl⟩
theorem b_sub (m:Bool):OpR X (binaryOp .Sub) (zj4 fa X.K m .sub):=b_int (C:=fun _ _=>True) (g:=fun i j=>i - j) (zhf op_sub fun x y H Q ⟨i,j,e1,e2,_,q⟩=>⟨i,j,e1,e2,q⟩) fun dx dy M P h=>by
  cases dx<;>cases dy<;>first | exact ⟨_,_,rfl,rfl,trivial,h⟩ | exact h.elim
theorem b_fdiv (m:Bool):OpR X (binaryOp .FloorDiv) (zj4 fa X.K m .fdiv):=b_int z1f fun dx dy M P h=>by
  have key:∀ i j,dx=.int i->dy=.int j->∃ i j,dx=.int i /\ dy=.int j /\ CDiv i j /\ P (.int (i / j)) M:=fun i j e1 e2=>by
    subst e1 e2
    have h:okE (if 0 < j /\ j < 1073741824 then .ok (.int (i / j)) M else .bad) P:=h
    split at h
    · next c=>exact ⟨i,j,rfl,rfl,c,h⟩
    · exact h.elim
  cases dx<;>cases dy<;>first | exact key _ _ rfl rfl | exact h.elim
theorem b_mod (m:Bool):OpR X (binaryOp .Mod) (zj4 fa X.K m .mod):=b_int op_mod fun dx dy M P h=>by
  have key:∀ i j,dx=.int i->dy=.int j->∃ i j,dx=.int i /\ dy=.int j /\ 0 < j /\ P (.int (i % j)) M:=fun i j e1 e2=>by
    subst e1 e2
    have h:okE (if 0 < j then .ok (.int (i % j)) M else .bad) P:=h
    split at h
    · next c=>exact ⟨i,j,rfl,rfl,c,h⟩
    · exact h.elim
  cases dx<;>cases dy<;>first | exact key _ _ rfl rfl | exact h.elim
theorem b_pow (m:Bool):OpR X (binaryOp .Pow) (zj4 fa X.K m .pow):=b_int op_pow fun dx dy M P h=>by
  have key:∀ i j,dx=.int i->dy=.int j->∃ i j,dx=.int i /\ dy=.int j /\ CPow i j /\ P (.int (i ^ j.toNat)) M:=fun i j e1 e2=>by
    subst e1 e2
    have h:okE (if 0≤j /\ j≤1000000 /\ i.natAbs < 2 ^ 64 then .ok (.int (i ^ j.toNat)) M else .bad) P:=h
    split at h
    · next c=>exact ⟨i,j,rfl,rfl,c,h⟩
    · exact h.elim
  cases dx<;>cases dy<;>first | exact key _ _ rfl rfl | exact h.elim
theorem zxv {m:Bool}{x y:V}{v u:Value}{dx:D}{j:Int}{Q:VK} (I:Inv X pins σ H s) (hM:RelM fa X.K μ H M) (h1:Rep fa X.K μ H dx x) (h2:Rep fa X.K μ H (.int j) y) (rx:RelV x v) (ry:RelV y u)
    (h:okE (match zie M dx with | some x=>if x.length * j.toNat≤sz /\ -(2 ^ 63)≤j /\ j < 2 ^ 63 then zb5 m (List.replicate j.toNat x).flatten M else .bad | none=>.bad) (zbt fa X.K μ H Q)) :
    wpAny (model X.prog X.w) X.A (binaryOp .Mult v u) (EP X pins σ Q) X.xe s:=by
  cases e1:zie M dx with
  | none=>rw [e1] at h;exact h.elim
  | some xs =>
    rw [e1] at h
    simp only at h
    split at h
    · next c=>
      obtain ⟨a,vs,rfl,ha,ra⟩:=zib hM h1 e1
      obtain ⟨hz,k⟩:=zgf hM (ra.rep j.toNat) h
      exact op_rep pins s σ H _ _ v u Q I rx ry ⟨a,j,vs,rfl,h2,ha,c.2.1,c.2.2,by rw [ra.length,<- ze3];exact c.1,k⟩
    · exact h.elim
end
end LD
namespace LD
open PySem PySem.Spec PyProof.Rows L2 PySem.Builtin
open PySem.Sem (wp)
theorem zlg:fillsNumberSlot (.type "tuple") "mul"=pure false:=
  PySem.fillsNumberSlot_seq (id:="tuple.__mul__") (r:=some (.builtin "tuple.__rmul__")) F.slot_tuple_mul.lookup (by decide +kernel) F.slot_tuple_rmul.lookup (by decide +kernel)
theorem zqd:seqRepeat? (.type "tuple")=pure (some (.builtin "tuple.__mul__")):=by
  unfold seqRepeat?
  rw [PySem.seqSlot_of (T:="tuple") (name:="__mul__") (id:="tuple.__mul__") F.slot_tuple_mul.lookup (by decide +kernel),PySem.seqSlot_of (T:="tuple") (name:="__rmul__") (id:="tuple.__rmul__") F.slot_tuple_rmul.lookup (by decide +kernel)]
  rfl
theorem zm7 (a:Int) (t:Tok) (l:Addr) (items:Array Value) (n:Nat) (dd:Option Addr) (sl:Array (Option Value)) :
    Meets (Builtin.«int.__rmul__» ⟨[.int a t,.ref l],[]⟩) (fun _ R s=>s.heap.get? l=some {cls:=.type "tuple",dict:=dd,data:=.seq items n,slots:=sl} /\ R (.ok (.ret Value.notImplemented)) s):=
  .of_wp fun prog w A R s h=>by obtain ⟨hp,g,d,tk,os⟩:=s;obtain ⟨hl,h⟩:=h;wp_walk using wpAny_loadPart' hl;exact ⟨_,rfl,h⟩
theorem zth {x:Int} (h0:-(2 ^ 63)≤x) (h1:x < 2 ^ 63):(decide (x < -2 ^ 63)||decide (x≥2 ^ 63))=false:=by
  rw [decide_eq_false (by omega),decide_eq_false (by omega)];rfl
theorem znj (l:Addr) (items:Array Value) (n:Nat) (dd:Option Addr) (sl:Array (Option Value)) (x:Int) (u:Tok) (h0:-(2 ^ 63)≤x) (h1:x < 2 ^ 63) (hc:(items.isEmpty||x==1)=true) :
    Meets (Builtin.«tuple.__mul__» ⟨[.ref l,.int x u],[]⟩) (fun _ R s=>s.heap.get? l=some {cls:=.type "tuple",dict:=dd,data:=.seq items n,slots:=sl} /\ R (.ok (.ret (.ref l))) s):=
  .of_wp fun prog w A R s h=>by
    obtain ⟨hp,g,d,tk,os⟩:=s;obtain ⟨hl,h⟩:=h;have f1:=AutoSeq1.idx_int
    wp_walk using wpAny_loadPart' hl
    refine wpAny_ite_false (by rw [zth h0 h1];rfl) ?_
    wp_walk using wpAny_loadPart' hl
    exact ⟨_,rfl,h⟩
theorem znk (l:Addr) (items:Array Value) (n:Nat) (dd:Option Addr) (sl:Array (Option Value)) (x:Int) (u:Tok) (h0:-(2 ^ 63)≤x) (h1:x < 2 ^ 63) (hc:(items.isEmpty||x==1)=false) (hc1:(decide (x≤0)||items.isEmpty)=true) :
    Meets (Builtin.«tuple.__mul__» ⟨[.ref l,.int x u],[]⟩) (fun _ R s=>s.heap.get? l=some {cls:=.type "tuple",dict:=dd,data:=.seq items n,slots:=sl} /\ R (.ok (.ret (.ref s.heap.objs.size))) {s with heap:=s.heap.push {cls:=Value.type "tuple",data:=Data.seq #[]},toks:=s.toks}):=
  .of_wp fun prog w A R s h=>by
    obtain ⟨hp,g,d,tk,os⟩:=s;obtain ⟨hl,h⟩:=h;have f1:=AutoSeq1.idx_int
    wp_walk using wpAny_loadPart' hl
    refine wpAny_ite_false (by rw [zth h0 h1];rfl) ?_
    wp_walk using wpAny_loadPart' hl
    exact ⟨_,rfl,h⟩
theorem znl (l:Addr) (items:Array Value) (n:Nat) (dd:Option Addr) (sl:Array (Option Value)) (x:Int) (u:Tok) (h0:-(2 ^ 63)≤x) (h1:x < 2 ^ 63) (hc:(items.isEmpty||x==1)=false) (hc1:(decide (x≤0)||items.isEmpty)=false)
    (hs:(items.size:Int) * x≤16777216) (hs2:(List.foldl (fun x1 x2=>x1++x2) #[] (List.replicate x.toNat items)).size≤sizeLine) :
    Meets (Builtin.«tuple.__mul__» ⟨[.ref l,.int x u],[]⟩) (fun _ R s=>s.heap.get? l=some {cls:=.type "tuple",dict:=dd,data:=.seq items n,slots:=sl} /\ R (.ok (.ret (.ref s.heap.objs.size))) {s with heap:=s.heap.push {cls:=Value.type "tuple",data:=Data.seq (List.foldl (fun x1 x2=>x1++x2) #[] (List.replicate x.toNat items))},toks:=s.toks}):=
  .of_wp fun prog w A R s h=>by
    obtain ⟨hp,g,d,tk,os⟩:=s;obtain ⟨hl,h⟩:=h;have f1:=AutoSeq1.idx_int
    wp_walk using wpAny_loadPart' hl
    refine wpAny_ite_false (by rw [zth h0 h1];rfl) ?_
    wp_walk using wpAny_loadPart' hl
    refine wpAny_ite_false (decide_eq_false (by omega)) ?_
    wp_walk using wpAny_loadPart' hl
    refine wpAny_ite_false (decide_eq_false (by unfold Tuple.tupleTooMany;rw [sizeLine_eq];simp;omega)) ?_
    wp_walk using wpAny_loadPart' hl
    exact ⟨_,rfl,h⟩
section
variable {fa:Fa}{X:Cx}{μ:Mu}{H:Hp}{σ:L2.St}{pins:List (Addr×Obj)}{s:Shared}{M:Mem}
theorem zn8 (its:List Value) (m:Nat):List.foldl (fun x1 x2=>x1++x2) #[] (List.replicate m its.toArray)=(List.replicate m its).flatten.toArray:=by
  have:=foldl_rep its m []
  rw [List.nil_append] at this
  exact this
theorem z1d:OpR X (binaryOp .Mult) (fun x y H Q=>∃ l k xs,x=.ref l /\ y=.int k /\ SqT X.K H l xs /\ -(2 ^ 63)≤k /\ k < 2 ^ 63 /\ xs.length * k.toNat≤sz /\
    ((List.replicate k.toNat xs).flatten=xs->Q (.ref l) H) /\ ∀ p,H p=none->Q (.ref p) (upd H p (.tup (List.replicate k.toNat xs).flatten))):=by
  intro pins s σ H x y v u Q I rx ry h
  obtain ⟨l,k,xs,rfl,rfl,hq,h1,h2,hz,q1,q2⟩:=h
  cases rx
  obtain ⟨t,rfl⟩:=ry
  obtain ⟨its,r,p,hzz⟩:=I.tuple hq
  have hl:=r.length
  obtain ⟨⟨cls,dd,data,sl⟩,ho,hc,n,hd⟩:=id p
  simp only at hc hd
  subst hc hd
  refine wpAny_binaryOp_repeat_ref (T:="tuple") (U:="int") (by decide) ⟨_,ho,rfl⟩ (fun s'=>typeIs_int s' k t) zlg F.fills_int_mul F.slot_int_rmul zqd F.slot_int_index.lookup
    (call_meets F.slot_int_rmul (typeIs_int s k t) F.entry_int_rmul (F.args_int_rmul_2 _ _) (zm7 k t l its.toArray n dd sl) ⟨ho,rfl,⟨_,ho,rfl⟩,?_⟩)
  have new:∀ (its':List Value),Vals (List.replicate k.toNat xs).flatten its'->EP X pins σ Q (.ref s.heap.objs.size) {s with heap:=s.heap.push {cls:=Value.type "tuple",data:=Data.seq its'.toArray}}:=fun its' r'=>by
    refine ⟨.ref s.heap.objs.size,_,I.laid (t':=s.toks) (o:=.tup (List.replicate k.toNat xs).flatten) (fun b ob q=>Heap.get?_push_of_some _ q) (Nat.le_refl _) ?_,rfl,q2 _ (I.hok.fresh (Nat.le_refl _))⟩
    exact ⟨by rw [len_rep,Nat.mul_comm,<- ze3];exact hz,_,r',IsTup.new _ _⟩
  by_cases c1:(its.toArray.isEmpty||k==1)=true
  · refine call_meets F.slot_tuple_mul ⟨_,ho,rfl⟩ F.entry_tuple_mul (F.args_tuple_mul_2 _ _) (znj l its.toArray n dd sl k t h1 h2 c1) ⟨ho,⟨.ref l,H,I,rfl,q1 ?_⟩⟩
    rcases Bool.or_eq_true_iff.mp c1 with z | z
    · have e:its=[]:=by simpa using z
      subst e
      have e2:xs=[]:=List.length_eq_zero_iff.mp hl
      subst e2
      simp
    · have e:k=1:=by simpa using z
      subst e
      simp
  · have c1':(its.toArray.isEmpty||k==1)=false:=by simpa using c1
    by_cases c2:(decide (k≤0)||its.toArray.isEmpty)=true
    · refine call_meets F.slot_tuple_mul ⟨_,ho,rfl⟩ F.entry_tuple_mul (F.args_tuple_mul_2 _ _) (znk l its.toArray n dd sl k t h1 h2 c1' c2) ⟨ho,new [] ?_⟩
      have hk:k≤0:=by
        rcases Bool.or_eq_true_iff.mp c2 with z | z
        · simpa using z
        · rw [z] at c1';cases c1'
      have hk0:k.toNat=0:=by omega
      rw [hk0];exact .nil
    · have c2':(decide (k≤0)||its.toArray.isEmpty)=false:=by simpa using c2
      have hk:0 < k:=by
        have:=(Bool.or_eq_false_iff.mp c2').1
        simpa using this
      have hs:(its.toArray.size:Int) * k≤16777216:=by
        have e1:(its.toArray.size:Int) * k=((xs.length * k.toNat:Nat):Int):=by
          rw [List.size_toArray,<- hl,Int.natCast_mul,Int.toNat_of_nonneg (by omega)]
        rw [e1]
        have:xs.length * k.toNat≤16777216:=hz
        omega
      have hs2:(List.foldl (fun x1 x2=>x1++x2) #[] (List.replicate k.toNat its.toArray)).size≤sizeLine:=by
        rw [zn8,List.size_toArray,len_rep,Nat.mul_comm,<- hl,<- ze3];exact hz
      refine call_meets F.slot_tuple_mul ⟨_,ho,rfl⟩ F.entry_tuple_mul (F.args_tuple_mul_2 _ _) (znl l its.toArray n dd sl k t h1 h2 c1' c2' hs hs2) ⟨ho,?_⟩
      rw [zn8]
      exact new _ (r.rep k.toNat)
theorem b_mul (m:Bool):OpR X (binaryOp .Mult) (zj4 fa X.K m .mul):=by
  intro pins s σ H x y v u Q I rx ry h
  obtain ⟨μ,M,dx,dy,hM,h1,h2,h⟩:=h
  have hi:∀ i j,dx=.int i->dy=.int j->wpAny (model X.prog X.w) X.A (binaryOp .Mult v u) (EP X pins σ Q) X.xe s:=fun i j e1 e2=>by
    subst e1 e2
    have h:okE (if (-(2 ^ 64) < i /\ i < 2 ^ 64) \/ (-(2 ^ 64) < j /\ j < 2 ^ 64) then .ok (.int (i * j)) M else .bad) (zbt fa X.K μ H Q):=h
    split at h
    · next c=>exact op_mul pins s σ H x y v u Q I rx ry ⟨i,j,h1,h2,c,zbm (v:=.int (i * j)) hM h rfl⟩
    · exact h.elim
  have ht:∀ i j,dx=.tup i->dy=.int j->wpAny (model X.prog X.w) X.A (binaryOp .Mult v u) (EP X pins σ Q) X.xe s:=fun i j e1 e2=>by
    subst e1 e2
    have h:okE (if i.length * j.toNat≤sz /\ -(2 ^ 63)≤j /\ j < 2 ^ 63 then .ok (.tup (List.replicate j.toNat i).flatten) M else .bad) (zbt fa X.K μ H Q):=h
    split at h
    · next c=>
      have h:zbt fa X.K μ H Q (.tup (List.replicate j.toNat i).flatten) M:=h
      obtain ⟨a,vs,e1,ha,ra⟩:=id h1
      refine z1d pins s σ H x y v u Q I rx ry ⟨a,j,vs,e1,h2,ha,c.2.1,c.2.2,by rw [ra.length];exact c.1,fun z=>?_,zg0 hM (ra.rep j.toNat) h⟩
      refine zbm hM h ⟨a,vs,rfl,ha,?_⟩
      have:=ra.rep j.toNat
      rw [z] at this
      exact this
    · exact h.elim
  have hl:∀ j,dy=.int j->okE (match zie M dx with | some x=>if x.length * j.toNat≤sz /\ -(2 ^ 63)≤j /\ j < 2 ^ 63 then zb5 m (List.replicate j.toNat x).flatten M else .bad | none=>.bad) (zbt fa X.K μ H Q)->
      wpAny (model X.prog X.w) X.A (binaryOp .Mult v u) (EP X pins σ Q) X.xe s:=fun j e1 h'=>by
    subst e1
    exact zxv (m:=m) I hM h1 h2 rx ry h'
  cases dy with
  | int j=>cases dx<;>first | exact hi _ _ rfl rfl | exact ht _ _ rfl rfl | exact hl _ rfl h
  | _=>cases dx<;>exact h.elim
def binOp:Bin->Operator
  | .add=>.Add | .sub=>.Sub | .mul=>.Mult | .fdiv=>.FloorDiv | .mod=>.Mod | .pow=>.Pow
theorem b_all (m:Bool):∀ o:Bin,OpR X (binaryOp (binOp o)) (zj4 fa X.K m o)
  | .add=>b_add m | .sub=>b_sub m | .mul=>b_mul m | .fdiv=>b_fdiv m | .mod=>b_mod m | .pow=>b_pow m
end
end LD
namespace LD
open PySem PySem.Spec PyProof.Rows L2
section
variable {fa:Fa}{X:Cx}{μ:Mu}{H:Hp}{σ:L2.St}{pins:List (Addr×Obj)}{s:Shared}{M:Mem}
theorem ix_imp {r r':R2} (h:IxR X r) (i:∀ x y H Q,r' x y H Q->r x y H Q):IxR X r':=fun value slice pins s σ H x y v u Q I rx ry q hs=>h value slice pins s σ H x y v u Q I rx ry (i x y H Q q) hs
def rIdx (fa:Fa) (K:PySem.W.Frag):R2:=fun x y H Q=>∃ μ M dx dy d,RelM fa K μ H M /\ Rep fa K μ H dx x /\ Rep fa K μ H dy y /\ zg5 dx dy M=some d /\ zbt fa K μ H Q d M
theorem zqx (n:Nat) (i:Int):LD.ixN n i=L2.ixN n i:=rfl
theorem i_all:IxR X (rIdx fa X.K):=ix_imp ix_seq fun x y H Q h=>by
  obtain ⟨μ,M,dx,dy,d,hM,h1,h2,e,q⟩:=h
  have gen:∀ i,dy=.int i->((zcn M dx).bind fun ds=>(LD.ixN ds.length i).bind fun j=>ds[j]?)=some d->rIx X.K x y H Q:=fun i e0 e'=>by
    subst e0
    clear e
    have e:=e'
    clear e'
    cases e1:zcn M dx with
    | none=>rw [e1] at e;cases e
    | some ds =>
      rw [e1,Option.bind_some] at e
      obtain ⟨a,vs,rfl,hq,r⟩:=zia hM h1 e1
      cases e2:LD.ixN ds.length i with
      | none=>rw [e2] at e;cases e
      | some j =>
        rw [e2,Option.bind_some] at e
        obtain ⟨v,hv,rv⟩:=r.get e
        have he:atI vs i=some v:=by
          unfold atI
          rw [r.length,<- zqx,e2];exact hv
        rcases hq with hq | hq
        · exact .inl ⟨a,vs,i,v,rfl,h2,hq,he,zbm hM q rv⟩
        · exact .inr (.inl ⟨a,vs,i,v,rfl,h2,hq,he,zbm hM q rv⟩)
  have str:∀ z i,dx=.str z->dy=.int i->rIx X.K x y H Q:=fun z i e1 e2=>by
    subst e1 e2
    have e:(if z.cps.size≤sz then (LD.ixN z.cps.size i).bind fun j=>(z.cps[j]?).map fun c=>D.str ⟨#[c]⟩ else none)=some d:=e
    split at e
    · next hz=>
      cases e2:LD.ixN z.cps.size i with
      | none=>rw [e2] at e;cases e
      | some j =>
        rw [e2,Option.bind_some] at e
        cases e3:z.cps[j]? with
        | none=>rw [e3] at e;cases e
        | some c =>
          rw [e3] at e
          have e4:D.str ⟨#[c]⟩=d:=Option.some.inj e
          subst e4
          refine .inr (.inr ⟨z,i,c,h1,h2,by rw [<- ze3];exact hz,?_,zbm hM q rfl⟩)
          unfold atI
          rw [show z.cps.toList.length=z.cps.size by simp,<- zqx,e2]
          simpa using e3
    · cases e
  cases dy with
  | int i=>cases dx<;>first | exact str _ _ rfl rfl | exact gen _ rfl e
  | _=>cases dx<;>cases (show (none:Option D)=some d from e)
theorem sl_imp {r r':V->Option Int->Option Int->Hp->VK->Prop} (h:SlR X r) (i:∀ x lo hi H Q,r' x lo hi H Q->r x lo hi H Q):SlR X r':=fun pins s σ H x v vl vu lo hi sl Q I rx hs pl pu q=>h pins s σ H x v vl vu lo hi sl Q I rx hs pl pu (i x lo hi H Q q)
def zl9:D->Option (Option Int)
  | .non=>some none
  | .int i=>some (some i)
  | _=>none
theorem zlc (n d:Nat) (x:D):LD.sIx n d x=(zl9 x).map (HT.sIx n d):=by
  cases x<;>rfl
theorem zpz:SlR X (fun x lo hi H Q=>∃ a xs,x=.ref a /\ SqT X.K H a xs /\ (HT.sIx xs.length 0 lo=0 /\ HT.sIx xs.length xs.length hi=xs.length) /\ Q (.ref a) H):=by
  intro pins s σ H x v vl vu lo hi sl Q I rx hs pl pu h
  obtain ⟨a,xs,rfl,hx,hw,q⟩:=h
  cases rx
  obtain ⟨its,r,ht,hz⟩:=I.tuple hx
  refine ⟨"tuple",_,PyProof.Rows.slot_tuple_getitem.lookup,ht.typeIs,?_⟩
  have hlen:its.toArray.size=xs.length:=by rw [List.size_toArray];exact r.length.symm
  rw [<- hlen] at hw
  obtain ⟨os,hos,hcs,hds⟩:=id hs
  have hTs:s.TypeIs (.ref sl) "slice":=⟨os,hos,hcs⟩
  unfold getItem
  try with_reducible refine wpAny_holding ?_
  first | refine wpAny_bind (wpAny_pure ?_) | skip
  refine wpAny_bind (wpAny_sequenceKey ht.typeIs (by decide) ?_)
  refine wpAny_bind (wpAny_callSpecial?_slot (name:=Str.ofString "__getitem__") ht.typeIs PyProof.Rows.slot_tuple_getitem
    (wpAny_call_entry PyProof.Rows.slot_tuple_getitem ht.typeIs entry_tuple_getitem ?_ (args_tuple_getitem _ _)))
  show wpAny _ _ (Builtin.Tuple.tupleItemsOf (.ref a) >>= _) _ _ s
  refine wpAny_bind (tupleItemsOf_ ht ?_)
  refine wpAny_bind (wpAny_typeOf hTs ?_)
  rw [if_pos (by decide)]
  refine wpAny_bind (HT.zh8 hs pl pu ?_)
  have hyes:(((HT.sIx its.toArray.size 0 lo:Nat):Int)==0&&(1:Int)==1&&(HT.sIx its.toArray.size its.toArray.size hi - HT.sIx its.toArray.size 0 lo)==its.toArray.size)=true:=by
    rw [hw.1,hw.2];simp
  show wpAny _ _ (if (((HT.sIx its.toArray.size 0 lo:Nat):Int)==0&&(1:Int)==1&&(HT.sIx its.toArray.size its.toArray.size hi - HT.sIx its.toArray.size 0 lo)==its.toArray.size)=true then _ else _) _ _ s
  rw [if_pos hyes]
  refine wpAny_bind (m:=Builtin.Tuple.tupleIsExact (.ref a)) ?_
  unfold Builtin.Tuple.tupleIsExact
  refine wpAny_bind (wpAny_typeOf ht.typeIs ?_)
  refine wpAny_pure ?_
  rw [if_pos (by decide)]
  exact wpAny_bind (wpAny_rule (wpAny_pure ⟨_,rfl,wpAny_pure ⟨.ref a,H,I,rfl,q⟩⟩))
def rSlc (fa:Fa) (K:PySem.W.Frag) (m:Bool):V->Option Int->Option Int->Hp->VK->Prop:=fun x lo hi H Q=>∃ μ M dx dl dh,RelM fa K μ H M /\ Rep fa K μ H dx x /\ zl9 dl=some lo /\ zl9 dh=some hi /\ okE (zg4 m dx dl dh M) (zbt fa K μ H Q)
theorem z0i (m:Bool):SlR X (rSlc fa X.K m):=by
  refine sl_imp (z0j.or (sl_tup.or zpz)) fun x lo hi H Q h=>?_
  obtain ⟨μ,M,dx,dl,dh,hM,h1,e1,e2,h⟩:=h
  have gen:okE (match rdD M dx with
    | some xs => match LD.sIx xs.length 0 dl, LD.sIx xs.length xs.length dh with
      | some l,some h=>zb5 m (cut xs l h) M
      | _,_=>.bad
    | none=>.bad) (zbt fa X.K μ H Q)->rSlL X.K x lo hi H Q:=fun h=>by
    cases e:rdD M dx with
    | none=>rw [e] at h;exact h.elim
    | some xs =>
      rw [e] at h
      simp only [zlc,e1,e2,Option.map_some] at h
      obtain ⟨a,vs,rfl,hq,r⟩:=zcf hM h1 e
      have hl:=r.length
      obtain ⟨_,k⟩:=zgf hM ((r.drop (HT.sIx xs.length 0 lo)).take (HT.sIx xs.length xs.length hi - HT.sIx xs.length 0 lo)) h
      refine ⟨a,vs,rfl,hq,?_⟩
      unfold zkd
      rw [hl]
      exact k
  have tup:∀ xs,dx=.tup xs->rSlT X.K x lo hi H Q \/ ∃ a xs,x=.ref a /\ SqT X.K H a xs /\ (HT.sIx xs.length 0 lo=0 /\ HT.sIx xs.length xs.length hi=xs.length) /\ Q (.ref a) H:=fun xs e=>by
    subst e
    have h:okE (match LD.sIx xs.length 0 dl,LD.sIx xs.length xs.length dh with
      | some l,some h=>.ok (.tup (cut xs l h)) M
      | _,_=>.bad) (zbt fa X.K μ H Q):=h
    simp only [zlc,e1,e2,Option.map_some] at h
    have h:zbt fa X.K μ H Q (.tup (cut xs (HT.sIx xs.length 0 lo) (HT.sIx xs.length xs.length hi))) M:=h
    obtain ⟨a,vs,rfl,hq,r⟩:=h1
    have hl:=r.length
    by_cases hw:HT.sIx vs.length 0 lo=0 /\ HT.sIx vs.length vs.length hi=vs.length
    · refine .inr ⟨a,vs,rfl,hq,hw,?_⟩
      rw [hl] at hw
      have e3:cut xs (HT.sIx xs.length 0 lo) (HT.sIx xs.length xs.length hi)=xs:=by rw [hw.1,hw.2];simp [cut]
      rw [e3] at h
      exact zbm hM h ⟨a,vs,rfl,hq,r⟩
    · refine .inl ⟨a,vs,rfl,hq,hw,?_⟩
      have k:=zg0 hM ((r.drop (HT.sIx xs.length 0 lo)).take (HT.sIx xs.length xs.length hi - HT.sIx xs.length 0 lo)) h
      unfold zkd
      rw [hl]
      exact k
  cases dx<;>first | exact .inr (tup _ rfl) | exact .inl (gen h)
def rBlt (fa:Fa) (K:PySem.W.Frag) (f:Blt):List V->Hp->VK->Prop:=fun vs H Q=>∃ μ M ds,RelM fa K μ H M /\ za3 fa K μ H ds vs /\ okE (ze5 f ds M) (zbt fa K μ H Q)
theorem zpa {d:D}{vs:List V}{K:PySem.W.Frag} (h:za3 fa K μ H [d] vs):∃ v,vs=[v] /\ Rep fa K μ H d v:=by
  obtain ⟨v,r,rfl,h1,h2⟩:=h
  obtain rfl:r=[]:=h2
  exact ⟨v,rfl,h1⟩
theorem f_len:zdn X (.builtin "len") (rBlt fa X.K .len):=zjs (zre.or zrd) fun vs H Q h=>by
  obtain ⟨μ,M,ds,hM,r,h⟩:=h
  match ds,r,h with
  | [],_,h=>exact h.elim
  | d::_::_,_,h=>cases d<;>exact h.elim
  | [d], r, h =>
    obtain ⟨v,rfl,hv⟩:=zpa r
    have gen:okE (match zcn M d with | some xs=>.ok (.int xs.length) M | none=>.bad) (zbt fa X.K μ H Q)->∃ p ys,[v]=[.ref p] /\ (SqL X.K H p ys \/ SqT X.K H p ys) /\ Q (.int ys.length) H:=fun h=>by
      cases e:zcn M d with
      | none=>rw [e] at h;exact h.elim
      | some xs =>
        rw [e] at h
        obtain ⟨a,vs,rfl,hq,r⟩:=zia hM hv e
        refine ⟨a,vs,rfl,hq,?_⟩
        rw [r.length]
        exact zbm (v:=.int xs.length) hM h rfl
    have str:∀ x,d=.str x->∃ z,[v]=[V.str z] /\ z.length≤sizeLine /\ Q (.int z.length) H:=fun x e=>by
      subst e
      have h:okE (if x.cps.size≤sz then .ok (.int x.cps.size) M else .bad) (zbt fa X.K μ H Q):=h
      split at h
      · next c=>exact ⟨x,by rw [show v=.str x from hv],by rw [<- ze3];exact c,zbm (v:=.int x.cps.size) hM h rfl⟩
      · exact h.elim
    cases d<;>first | exact .inr (str _ rfl) | exact .inl (gen h)
theorem z1u:zdn X (.type "tuple") (rBlt fa X.K .tuple):=zjs zo3 fun vs H Q h=>by
  obtain ⟨μ,M,ds,hM,r,h⟩:=h
  match ds,r,h with
  | [],_,h=>exact h.elim
  | d::_::_,_,h=>cases d<;>exact h.elim
  | [d], r, h =>
    obtain ⟨v,rfl,hv⟩:=zpa r
    have gen:okE (match rdD M d with | some xs=>.ok (.tup xs) M | none=>.bad) (zbt fa X.K μ H Q)->∃ p ys,[v]=[.ref p] /\ ((SqL X.K H p ys /\ ∀ l,H l=none->Q (.ref l) (upd H l (.tup ys))) \/ (SqT X.K H p ys /\ Q (.ref p) H)):=fun h=>by
      cases e:rdD M d with
      | none=>rw [e] at h;exact h.elim
      | some xs =>
        rw [e] at h
        obtain ⟨a,vs,rfl,hq,r⟩:=zcf hM hv e
        exact ⟨a,vs,rfl,.inl ⟨hq,zg0 hM r h⟩⟩
    have tup:∀ x,d=.tup x->∃ p ys,[v]=[.ref p] /\ ((SqL X.K H p ys /\ ∀ l,H l=none->Q (.ref l) (upd H l (.tup ys))) \/ (SqT X.K H p ys /\ Q (.ref p) H)):=fun x e=>by
      subst e
      obtain ⟨a,vs,rfl,hq,r⟩:=id hv
      exact ⟨a,vs,rfl,.inr ⟨hq,zbm hM h hv⟩⟩
    cases d<;>first | exact tup _ rfl | exact gen h
theorem f_list (m:Bool):zdn X (.type "list") (rBlt fa X.K (.list m)):=zjs zrc fun vs H Q h=>by
  obtain ⟨μ,M,ds,hM,r,h⟩:=h
  match ds,r,h with
  | [],_,h=>exact h.elim
  | _::_::_,_,h=>exact h.elim
  | [d], r, h =>
    obtain ⟨v,rfl,hv⟩:=zpa r
    have h:okE (match zcn M d with | some xs=>zb5 m xs M | none=>.bad) (zbt fa X.K μ H Q):=h
    cases e:zcn M d with
    | none=>rw [e] at h;exact h.elim
    | some xs =>
      rw [e] at h
      obtain ⟨a,vs,rfl,hq,r⟩:=zia hM hv e
      obtain ⟨_,k⟩:=zgf hM r h
      exact ⟨a,vs,rfl,hq,k⟩
end
end LD
namespace LD
open PySem PySem.Spec PyProof.Rows L2
section
variable {fa:Fa}{X:Cx}{μ:Mu}{H:Hp}{σ:L2.St}{pins:List (Addr×Obj)}{s:Shared}{M:Mem}
theorem truV {d:D}{v:V}{k:Bool} (hM:RelM fa X.K μ H M) (h:Rep fa X.K μ H d v) (e:zir M d=some k):TruV X.K v H k:=by
  cases d with
  | non=>obtain rfl:v=.non:=h;exact (Option.some.inj e).symm
  | bl b=>obtain rfl:v=.bl b:=h;exact (Option.some.inj e).symm
  | int i=>obtain rfl:v=.int i:=h;exact (Option.some.inj e).symm
  | str x =>
    obtain rfl:v=.str x:=h
    have e:(if x.cps.size≤sz then some (x.cps.size != 0) else none)=some k:=e
    split at e
    · next c=>
      refine ⟨by rw [<- ze3];exact c,?_⟩
      rw [<- Option.some.inj e]
      show (x.cps.size != 0)=((x.cps.size:Int) != 0)
      rw [Bool.eq_iff_iff];simp
    · cases e
  | tup ds =>
    obtain ⟨a,vs,rfl,hq,r⟩:=h
    refine .inr (.inl ⟨vs,hq,?_⟩)
    rw [<- Option.some.inj e]
    have:=r.length
    cases vs<;>cases ds<;>simp_all
  | lst ds =>
    obtain ⟨a,vs,rfl,hq,r⟩:=zcf (ds:=ds) hM h rfl
    refine .inl ⟨vs,hq,?_⟩
    rw [<- Option.some.inj e]
    have:=r.length
    cases vs<;>cases ds<;>simp_all
  | frz ds =>
    obtain ⟨a,vs,rfl,hq,r⟩:=zcf (ds:=ds) hM h rfl
    refine .inl ⟨vs,hq,?_⟩
    rw [<- Option.some.inj e]
    have:=r.length
    cases vs<;>cases ds<;>simp_all
  | cell c =>
    have e:(M[c]?).map (fun ds=>!ds.isEmpty)=some k:=e
    cases e1:M[c]? with
    | none=>rw [e1] at e;cases e
    | some ds =>
      rw [e1] at e
      obtain ⟨a,vs,rfl,hq,r⟩:=zcf (ds:=ds) hM h e1
      refine .inl ⟨vs,hq,?_⟩
      rw [<- Option.some.inj e]
      have:=r.length
      cases vs<;>cases ds<;>simp_all
  | fn f=>cases e
  | exc y p=>cases e
theorem zj3:∀ {ds:List D}{bs:List Bool}{vs:List V}{us:List Value},boolsOf ds=some bs->za3 fa X.K μ H ds vs->Vals vs us->PyProof.Rows.LSm.BoolsAre us bs:=by
  intro ds
  induction ds with
  | nil =>
    intro bs vs us e h r
    obtain rfl:vs=[]:=h
    cases r;cases e
    exact .nil
  | cons d ds ih =>
    intro bs vs us e h r
    obtain ⟨v,vr,rfl,h1,h2⟩:=h
    cases r with
    | cons r1 r2 =>
      cases d with
      | bl b =>
        have e:(boolsOf ds).map (b::·)=some bs:=e
        cases e1:boolsOf ds with
        | none=>rw [e1] at e;cases e
        | some cs =>
          rw [e1] at e
          have e2:b::cs=bs:=Option.some.inj e
          subst e2
          obtain rfl:v=.bl b:=h1
          obtain rfl:_=Value.bool b:=r1
          exact .cons b (ih e1 h2 r2)
      | _=>cases e
theorem znt:zdn X (.builtin "all") (fun xs H Q=>∃ μ ds bs p vs,xs=[.ref p] /\ X.calm=true /\ SqL X.K H p vs /\ za3 fa X.K μ H ds vs /\ boolsOf ds=some bs /\ Q (.bl (bs.all id)) H):=by
  intro pins s σ H xs us Q I r h
  obtain ⟨μ,ds,bs,p,vs,rfl,hc,hq,rl,eb,q⟩:=h
  obtain ⟨u,rfl,rx⟩:=vals1 r
  cases rx
  obtain ⟨its,rv,pl,hz⟩:=I.list hq
  have hb:=zj3 eb rl rv
  have hlt:p < s.heap.objs.size:=pl.lt
  refine call_all_walk (wpAny_pyIter_list pl.isList ?_)
  refine ⟨s.heap.objs.size,[s.heap.objs.size,p],[s.heap.objs.size],its.toArray.size,_,_,fun i=>(bs[i]?).getD true,rfl,Walks.list (A:=X.A.in1) (I.ok.hd hc) _ p (Nat.ne_of_lt hlt) its.toArray,
    ⟨⟨_,Heap.get?_push_size _ rfl,rfl,rfl⟩,pl.isList.push _⟩,fun i v s' Q' E' hP hQ=>?_,fun h' tk hk=>?_⟩
  · obtain ⟨b,e,rfl⟩:=hb.get i v (by simpa using hP)
    simp only [e,Option.getD_some] at hQ
    exact wpAny_truthy_bool hQ
  · have e:((List.range its.toArray.size).all fun i=>(bs[i]?).getD true)=bs.all id:=by
      rw [List.size_toArray,hb.length];exact PyProof.Rows.LSm.range_all bs
    rw [e]
    exact ⟨.bl _,H,I.kept (PyProof.Rows.LSm.kept_iter hk),rfl,q⟩
theorem f_all (hc:X.calm=true):zdn X (.builtin "all") (rBlt fa X.K .all):=zjs (znt (fa:=fa)) fun vs H Q h=>by
  obtain ⟨μ,M,ds,hM,r,h⟩:=h
  match ds,r,h with
  | [],_,h=>exact h.elim
  | d::_::_,_,h=>exact h.elim
  | [d], r, h =>
    obtain ⟨v,rfl,hv⟩:=zpa r
    have h:okE (match rdD M d with | some xs=>(match boolsOf xs with | some bs=>.ok (.bl (bs.all id)) M | none=>.bad) | none=>.bad) (zbt fa X.K μ H Q):=h
    cases e:rdD M d with
    | none=>rw [e] at h;exact h.elim
    | some xs =>
      rw [e] at h
      simp only at h
      cases e2:boolsOf xs with
      | none=>rw [e2] at h;exact h.elim
      | some bs =>
        rw [e2] at h
        obtain ⟨a,vs,rfl,hq,r⟩:=zcf hM hv e
        exact ⟨μ,xs,bs,a,vs,rfl,hc,hq,r,e2,zbm (v:=.bl (bs.all id)) hM h rfl⟩
def tyName:Ty->String
  | .int=>"int" | .bool=>"bool" | .str=>"str" | .tuple=>"tuple" | .list=>"list" | .own _=>""
def tyD:D->String
  | .non=>"NoneType" | .bl _=>"bool" | .int _=>"int" | .str _=>"str" | .tup _=>"tuple" | _=>"list"
theorem ty_of (t:Ty) (d:D) (b:Bool) (ht:∀ c,t≠.own c) (e:zcj t d=some b):PySem.W.kitOne X.K (.type (tyD d)) (.type (tyName t))=some b:=by
  cases t with
  | own c=>exact absurd rfl (ht c)
  | _=>cases d<;>first | (cases (show (none:Option Bool)=some b from e)) | (have e':=Option.some.inj e;subst e';(first | rfl | decide +kernel))
theorem zxe {d:D}{v:V}{b:Bool}{t:Ty} (hM:RelM fa X.K μ H M) (h:Rep fa X.K μ H d v) (e:zcj t d=some b) (I:Inv X pins σ H s) {u c:Value} (r:RelV v u) {Q:Value->Shared->Prop}
    (ek:PySem.W.kitOne X.K (.type (tyD d)) c=some b) (q:∀ tk,Q (.bool b) {s with toks:=tk}):wpAny (model X.prog X.w) X.A (call (.builtin "isinstance") [u,c]) Q X.xe s:=by
  cases d with
  | non=>obtain rfl:v=.non:=h;exact zik I r .non ek q
  | bl x=>obtain rfl:v=.bl x:=h;exact zik I r (.bl x) ek q
  | int x=>obtain rfl:v=.int x:=h;exact zik I r (.int x) ek q
  | str x=>obtain rfl:v=.str x:=h;exact zik I r (.str x) ek q
  | tup ds =>
    obtain ⟨a,vs,rfl,hq,_⟩:=h
    obtain rfl:u=Value.ref a:=r
    obtain ⟨its,rv,⟨o,h1,h2,_⟩,_⟩:=I.tuple hq
    exact PySem.W.kia_one PySem.W.kitx_tuple I.kIn ⟨o,h1,h2⟩ ek (fun z=>nomatch z) q
  | lst ds =>
    obtain ⟨a,vs,rfl,hq,_⟩:=zcf (ds:=ds) hM h rfl
    obtain rfl:u=Value.ref a:=r
    obtain ⟨its,rv,⟨o,n,h1,h2,_⟩,_⟩:=I.list hq
    exact PySem.W.kia_one PySem.W.kitx_list I.kIn ⟨o,h1,h2⟩ ek (fun z=>nomatch z) q
  | frz ds =>
    obtain ⟨a,vs,rfl,hq,_⟩:=zcf (ds:=ds) hM h rfl
    obtain rfl:u=Value.ref a:=r
    obtain ⟨its,rv,⟨o,n,h1,h2,_⟩,_⟩:=I.list hq
    exact PySem.W.kia_one PySem.W.kitx_list I.kIn ⟨o,h1,h2⟩ ek (fun z=>nomatch z) q
  | cell k =>
    obtain ⟨a,rfl,hk⟩:=h
    obtain ⟨ds,vs,_,hq,_⟩:=hM.mu_lt hk
    obtain rfl:u=Value.ref a:=r
    obtain ⟨its,rv,⟨o,n,h1,h2,_⟩,_⟩:=I.list (SqL.of hq)
    exact PySem.W.kia_one PySem.W.kitx_list I.kIn ⟨o,h1,h2⟩ ek (fun z=>nomatch z) q
  | fn f=>cases e
  | exc y p=>cases e
def rInst (fa:Fa) (K:PySem.W.Frag) (t:Ty):List V->Hp->VK->Prop:=fun vs H Q=>∃ μ M d v b,vs=[v,.ty (tyName t)] /\ RelM fa K μ H M /\ Rep fa K μ H d v /\ zcj t d=some b /\ Q (.bl b) H
theorem f_inst (t:Ty) (ht:∀ c,t≠.own c):zdn X (.builtin "isinstance") (rInst fa X.K t):=by
  intro pins s σ H xs us Q I r h
  obtain ⟨μ,M,d,v,b,rfl,hM,hv,e,q⟩:=h
  obtain ⟨u,w,rfl,r1,r2⟩:=vals2 r
  obtain rfl:w=Value.type (tyName t):=r2
  exact zxe hM hv e I r1 (ty_of t d b ht e) fun tk=>⟨.bl b,H,I.tok _,rfl,q⟩
end
end LD
namespace LD
open PySem PySem.Spec PyProof.Rows L2
section
variable {fa:Fa}{X:Cx}
abbrev DE (fa:Fa) (X:Cx) (e:PySem.Expr) (g:Env->Mem->Res D):Prop:=PE X e (tE fa X.K g)
abbrev DT (fa:Fa) (X:Cx) (e:PySem.Expr) (g:Env->Mem->Res Bool):Prop:=PT X e (tT fa X.K g)
abbrev DW (fa:Fa) (X:Cx) (e:PySem.Expr) (g:Env->Mem->Res Bool):Prop:=PW X e (tT fa X.K g)
abbrev DA (fa:Fa) (X:Cx) (es:List PySem.Expr) (g:Env->Mem->Res (List D)):Prop:=PA X es (tA fa X.K g)
abbrev DS (fa:Fa) (X:Cx) (st:PySem.Stmt) (g:Env->Mem->Res Fl):Prop:=PS X st (tF fa X g)
abbrev DSs (fa:Fa) (X:Cx) (st:List PySem.Stmt) (g:Env->Mem->Res Fl):Prop:=PSs X st (tF fa X g)
variable {a b d:PySem.Expr}{ga gb gd:Env->Mem->Res D}{pos:Pos}
theorem d_var {i:Nat}{x:Str} (hN:X.N[i]?=some x) (hv:Vis X.env.scope x) (hd:(x==("__debug__":Str))=false) (hcd:(x==("__classdict__":Str))=false) :
    DE fa X (.Name x pos) (fun ρ M=>ofO M (ρ[i]?.getD none)):=zco (zqg hN hv hd hcd) fun σ H Q ⟨μ,ρ,M,hE,hM,h⟩=>by
  obtain ⟨d,e,w⟩:=zkp h
  have e':ρ[i]?=some (some d):=by
    cases q:ρ[i]? with
    | none=>rw [q] at e;cases e
    | some o=>rw [q] at e;simp at e;rw [e]
  obtain ⟨v,h1,h2⟩:=hE.at' i d e'
  exact ⟨v,h1,zbm hM w h2⟩
theorem zjc {e:PySem.Expr}{dc:D}{v:V} (h:PE X e (tC v)) (r:∀ μ H,Rep fa X.K μ H dc v):DE fa X e (fun _ M=>.ok dc M):=zco h fun σ H Q ⟨μ,ρ,M,hE,hM,h⟩=>zbm hM h (r μ H)
theorem d_int {i:Int}{j:Nat}:DE fa X (.Constant (.int i) j pos) (fun _ M=>.ok (.int i) M):=zjc (v:=.int i) zvj fun _ _=>rfl
theorem d_bl {i:Bool}{j:Nat}:DE fa X (.Constant (.bool i) j pos) (fun _ M=>.ok (.bl i) M):=zjc (v:=.bl i) ztd fun _ _=>rfl
theorem d_str {i:Str}{j:Nat}:DE fa X (.Constant (.str i) j pos) (fun _ M=>.ok (.str i) M):=zjc (v:=.str i) pe_str fun _ _=>rfl
theorem d_non {j:Nat}:DE fa X (.Constant .none j pos) (fun _ M=>.ok .non M):=zjc (v:=.non) pe_non fun _ _=>rfl
theorem t2 {μ:Mu}{H:Hp}{σ:L2.St}{ρ:Env}{M:Mem}{β:Type}{f:D->D->Mem->Res β}{P:β->Mem->Prop}{R:V->V->Hp->Prop} (hE:zbv fa X.K μ H σ ρ) (hM:RelM fa X.K μ H M)
    (h:okE ((ga ρ M).bind fun x M=>(gb ρ M).bind fun y M=>f x y M) P)
    (k:∀ x y M2 v u H2 μ2,Ext μ H μ2 H2->zbv fa X.K μ2 H2 σ ρ->RelM fa X.K μ2 H2 M2->Rep fa X.K μ2 H2 x v->Rep fa X.K μ2 H2 y u->okE (f x y M2) P->R v u H2) :
    tE fa X.K ga σ H fun v H1=>tE fa X.K gb σ H1 fun u H2=>R v u H2:=
  t1 hE hM h fun x M1 v H1 μ1 x1 hE1 hM1 r1 h1=>t1 hE1 hM1 h1 fun y M2 u H2 μ2 x2 hE2 hM2 r2 h2=>k x y M2 v u H2 μ2 (x1.trans x2) hE2 hM2 (r1.ext x2) r2 h2
theorem d_bin (m:Bool) (o:Bin) (ha:DE fa X a ga) (hb:DE fa X b gb):DE fa X (.BinOp a (binOp o) b pos) (fun ρ M=>(ga ρ M).bind fun x M=>(gb ρ M).bind fun y M=>zfj m o x y M):=
  zco (pe_op (b_all m o) ha hb) fun σ H Q ⟨μ,ρ,M,hE,hM,h⟩=>t2 hE hM h fun x y M2 v u H2 μ2 x2 hE2 hM2 r1 r2 h2=>⟨μ2,M2,x,y,hM2,r1,r2,okW h2 x2⟩
theorem zmf {r:Option Bool}{M:Mem}{P:D->Mem->Prop} (h:okE ((ofO M r).bind fun b M=>.ok (.bl b) M) P):∃ b,r=some b /\ P (.bl b) M:=by
  obtain ⟨b,M1,e,q⟩:=zbe h
  cases r with
  | none=>cases e
  | some b'=>cases e;exact ⟨_,rfl,q⟩
theorem d_cmp (hu:Rm X) (o:Cmp) (ha:DE fa X a ga) (hb:DE fa X b gb) (hm:behindInMarks (zb6 o) b=false) :
    DE fa X (.Compare a [zb6 o] [b] pos) (fun ρ M=>(ga ρ M).bind fun x M=>(gb ρ M).bind fun y M=>(ofO M (zb1 o x y M)).bind fun b M=>.ok (.bl b) M):=
  zco (z1b (zkx hu o) ha hb hm) fun σ H Q ⟨μ,ρ,M,hE,hM,h⟩=>t2 hE hM h fun x y M2 v u H2 μ2 x2 hE2 hM2 r1 r2 h2=>by
    obtain ⟨b,e,q⟩:=zmf h2
    exact ⟨μ2,M2,x,y,b,hM2,r1,r2,e,zbm (v:=.bl b) hM2 (q.ext x2) rfl⟩
theorem dt_cmp (hu:Rm X) (o:Cmp) (ha:DE fa X a ga) (hb:DE fa X b gb) (hm:behindInMarks (zb6 o) b=false) :
    DT fa X (.Compare a [zb6 o] [b] pos) (fun ρ M=>((ga ρ M).bind fun x M=>(gb ρ M).bind fun y M=>(ofO M (zb1 o x y M)).bind fun b M=>.ok (.bl b) M).bind fun x M=>ofO M (zir M x)):=
  zj5 (zsf (zkx hu o) ha hb hm) fun σ H Q ⟨μ,ρ,M,hE,hM,h⟩=>by
    obtain ⟨z,M3,e,q⟩:=zbe h
    have h':okE ((ga ρ M).bind fun x M=>(gb ρ M).bind fun y M=>(ofO M (zb1 o x y M)).bind fun b M=>.ok (.bl b) M) (fun d M=>d=z /\ M=M3):=by rw [e];exact ⟨rfl,rfl⟩
    refine t2 hE hM h' fun x y M2 v u H2 μ2 x2 hE2 hM2 r1 r2 h2=>?_
    obtain ⟨b,e1,e2,e3⟩:=zmf h2
    subst e2 e3
    exact ⟨μ2,M2,x,y,b,hM2,r1,r2,e1,b,rfl,q H2 μ2 x2 hM2⟩
theorem z0a {g:Env->Mem->Res D}{σ:L2.St}{H:Hp}{Q:Bool->Hp->Prop} (hb:∀ ρ M x M',g ρ M=.ok x M'->∃ k,x=.bl k) (h:tT fa X.K (fun ρ M=>(g ρ M).bind fun x M=>ofO M (zir M x)) σ H Q) :
    tE fa X.K g σ H (fun x H'=>∃ k,x=.bl k /\ Q k H'):=by
  obtain ⟨μ,ρ,M,hE,hM,h⟩:=h
  obtain ⟨x,M1,e,q⟩:=zbe h
  obtain ⟨k,rfl⟩:=hb ρ M x M1 e
  refine ⟨μ,ρ,M,hE,hM,?_⟩
  rw [e]
  intro v H1 μ1 x1 m1 r1
  obtain rfl:v=.bl k:=r1
  exact ⟨k,rfl,q H1 μ1 x1 m1⟩
theorem i_chn {o o':Cmp}{gc:Env->Mem->Res D} (σ:L2.St) (H:Hp) (Q:VK):tE fa X.K (fun ρ M=>(ga ρ M).bind fun x M=>(gb ρ M).bind fun y M=>(ofO M (zb1 o x y M)).bind fun k M=>
      if k then (gc ρ M).bind fun z M=>(ofO M (zb1 o' y z M)).bind fun b M=>.ok (.bl b) M else .ok (.bl false) M) σ H Q->zpu (zgq fa X.K o) (zgq fa X.K o') (tE fa X.K ga) (tE fa X.K gb) (tE fa X.K gc) σ H Q:=fun ⟨μ,ρ,M,hE,hM,h⟩=>by
  refine t2 hE hM h fun x y M2 v u H2 μ2 x2 hE2 hM2 r1 r2 h2=>?_
  obtain ⟨k,M3,e,q⟩:=zbe h2
  cases ec:zb1 o x y M2 with
  | none=>rw [ec] at e;cases e
  | some k' =>
    rw [ec] at e
    cases e
    refine ⟨μ2,_,x,y,k,hM2,r1,r2,ec,k,rfl,?_⟩
    cases k with
    | false=>exact zbm (v:=.bl false) hM2 (zbt.ext q x2) rfl
    | true =>
      refine t1 hE2 hM2 q fun z M4 w H4 μ4 x4 hE4 hM4 r4 h4=>?_
      obtain ⟨b,e4,q4⟩:=zmf h4
      exact ⟨μ4,M4,y,z,b,hM4,r2.ext x4,r4,e4,zbm (v:=.bl b) hM4 (q4.ext (x2.trans x4)) rfl⟩
theorem d_chn (hu:Rm X) (o o':Cmp) {gc:Env->Mem->Res D} (ha:DE fa X a ga) (hb:DE fa X b gb) (hc:DE fa X d gc) (hm:lastMarks [zb6 o,zb6 o'] [b,d]=false) :
    DE fa X (.Compare a [zb6 o,zb6 o'] [b,d] pos) (fun ρ M=>(ga ρ M).bind fun x M=>(gb ρ M).bind fun y M=>(ofO M (zb1 o x y M)).bind fun k M=>
      if k then (gc ρ M).bind fun z M=>(ofO M (zb1 o' y z M)).bind fun b M=>.ok (.bl b) M else .ok (.bl false) M):=zco (zx7 (zkx hu o) (zkx hu o') ha hb hc hm) i_chn
theorem zyb {r:Option Bool}{M M':Mem}{x:D} (h:((ofO M r).bind fun b M=>Res.ok (.bl b) M)=.ok x M'):∃ k,x=.bl k:=by
  cases r with
  | none=>cases h
  | some b=>cases h;exact ⟨b,rfl⟩
theorem zfi {α β:Type}{r:Res α}{f:α->Mem->Res β}{x:β}{M:Mem} (h:r.bind f=.ok x M):∃ a M1,r=.ok a M1 /\ f a M1=.ok x M:=by
  cases r with
  | ok a M1=>exact ⟨a,M1,rfl,h⟩
  | err=>cases h
  | bad=>cases h
theorem dt_chn (hu:Rm X) (o o':Cmp) {gc:Env->Mem->Res D} (ha:DE fa X a ga) (hb:DE fa X b gb) (hc:DE fa X d gc) (hm:lastMarks [zb6 o,zb6 o'] [b,d]=false) :
    DT fa X (.Compare a [zb6 o,zb6 o'] [b,d] pos) (fun ρ M=>((ga ρ M).bind fun x M=>(gb ρ M).bind fun y M=>(ofO M (zb1 o x y M)).bind fun k M=>
      if k then (gc ρ M).bind fun z M=>(ofO M (zb1 o' y z M)).bind fun b M=>.ok (.bl b) M else .ok (.bl false) M).bind fun x M=>ofO M (zir M x)):=
  zj5 (zx2 (zkx hu o) (zkx hu o') ha hb hc hm) fun σ H Q h=>i_chn σ H _ (z0a (fun ρ M x M' e=>by
    obtain ⟨x1,M1,_,e⟩:=zfi e
    obtain ⟨x2,M2,_,e⟩:=zfi e
    obtain ⟨k,M3,_,e⟩:=zfi e
    cases k with
    | false=>cases e;exact ⟨_,rfl⟩
    | true =>
      obtain ⟨x4,M4,_,e⟩:=zfi e
      exact zyb e) h)
theorem d_neg (ha:DE fa X a ga):DE fa X (.UnaryOp .USub a pos) (fun ρ M=>(ga ρ M).bind fun x M=>match x with | .int i=>.ok (.int (-i)) M | _=>.bad):=
  zco (pe_un zus ha) fun σ H Q ⟨μ,ρ,M,hE,hM,h⟩=>t1 hE hM h fun x M1 v H1 μ1 x1 hE1 hM1 r1 h1=>by
    cases x with
    | int i=>exact ⟨i,r1,zbm (v:=.int (-i)) hM1 (zbt.ext h1 x1) rfl⟩
    | _=>exact h1.elim
theorem d_and {rest:List PySem.Expr} (ha:DE fa X a ga) (hb:DE fa X (.BoolOp .And (b::rest) pos) gb):DE fa X (.BoolOp .And (a::b::rest) pos) (fun ρ M=>(ga ρ M).bind fun x M=>match x with
    | .bl true=>gb ρ M
    | .bl false=>.ok (.bl false) M
    | _=>.bad):=
  zco (pe_and ha hb) fun σ H Q ⟨μ,ρ,M,hE,hM,h⟩=>t1 hE hM h fun x M1 v H1 μ1 x1 hE1 hM1 r1 h1=>by
    cases x with
    | bl k =>
      refine ⟨k,r1,?_⟩
      cases k with
      | true=>exact ⟨μ1,ρ,M1,hE1,hM1,okW h1 x1⟩
      | false=>exact zbm (v:=.bl false) hM1 (zbt.ext h1 x1) rfl
    | _=>exact h1.elim
theorem d_one {op:PySem.BoolOp} (ha:DE fa X a ga):DE fa X (.BoolOp op [a] pos) ga:=pe_one ha
theorem d_not (ha:DE fa X a ga):DE fa X (.UnaryOp .Not a pos) (fun ρ M=>(ga ρ M).bind fun x M=>match x with | .bl k=>.ok (.bl (!k)) M | _=>.bad):=
  zco (pe_not ha) fun σ H Q ⟨μ,ρ,M,hE,hM,h⟩=>t1 hE hM h fun x M1 v H1 μ1 x1 hE1 hM1 r1 h1=>by
    cases x with
    | bl k=>exact ⟨k,r1,zbm (v:=.bl (!k)) hM1 (zbt.ext h1 x1) rfl⟩
    | _=>exact h1.elim
variable {ta tb:Env->Mem->Res Bool}
theorem z11 (ha:DT fa X a ta):DW fa X (.BoolOp .And [a] pos) ta:=z01 ha
theorem dw_or1 (ha:DT fa X a ta):DW fa X (.BoolOp .Or [a] pos) ta:=pw_or1 ha
theorem okT {b':Res Bool}{μ μ':Mu}{H H':Hp}{Q:Bool->Hp->Prop} (x:Ext μ H μ' H') (h:okE b' fun b M'=>∀ H'' μ'',Ext μ H μ'' H''->RelM fa X.K μ'' H'' M'->Q b H''):okE b' fun b M'=>∀ H'' μ'',Ext μ' H' μ'' H''->RelM fa X.K μ'' H'' M'->Q b H'':=
  zbu h fun b M q H'' μ'' y m=>q H'' μ'' (x.trans y) m
theorem dw_and {rest:List PySem.Expr} (ha:DT fa X a ta) (hb:DW fa X (.BoolOp .And (b::rest) pos) tb):DW fa X (.BoolOp .And (a::b::rest) pos) (fun ρ M=>(ta ρ M).bind fun k M=>if k then tb ρ M else .ok false M):=
  zvf (pw_and ha hb) fun σ H Q ⟨μ,ρ,M,hE,hM,h⟩=>tT1 hE hM h fun k M1 H1 μ1 x1 hE1 hM1 h1=>by
    cases k with
    | true=>exact ⟨μ1,ρ,M1,hE1,hM1,okT x1 h1⟩
    | false=>exact h1 H1 μ1 x1 hM1
theorem dw_or {rest:List PySem.Expr} (ha:DT fa X a ta) (hb:DW fa X (.BoolOp .Or (b::rest) pos) tb):DW fa X (.BoolOp .Or (a::b::rest) pos) (fun ρ M=>(ta ρ M).bind fun k M=>if k then .ok true M else tb ρ M):=
  zvf (pw_or ha hb) fun σ H Q ⟨μ,ρ,M,hE,hM,h⟩=>tT1 hE hM h fun k M1 H1 μ1 x1 hE1 hM1 h1=>by
    cases k with
    | true=>exact h1 H1 μ1 x1 hM1
    | false=>exact ⟨μ1,ρ,M1,hE1,hM1,okT x1 h1⟩
theorem dt_not (ha:DT fa X a ta):DT fa X (.UnaryOp .Not a pos) (fun ρ M=>(ta ρ M).bind fun k M=>.ok (!k) M):=
  zj5 (pt_not ha) fun σ H Q ⟨μ,ρ,M,hE,hM,h⟩=>tT1 hE hM h fun k M1 H1 μ1 x1 hE1 hM1 h1=>h1 H1 μ1 x1 hM1
theorem zyv (ha:DE fa X a ga) (he:∀ whole,isTrue a X.env whole=(do let v <- whole;standAt a.pos;holding [v] (truthy v))):DT fa X a (fun ρ M=>(ga ρ M).bind fun x M=>ofO M (zir M x)):=
  zj5 (zx1 ha he) fun σ H Q ⟨μ,ρ,M,hE,hM,h⟩=>t1 hE hM h fun x M1 v H1 μ1 x1 hE1 hM1 r1 h1=>by
    obtain ⟨k,e,q⟩:=zkp h1
    exact ⟨k,truV hM1 r1 e,q H1 μ1 x1 hM1⟩
theorem d_ite {c:PySem.Expr}{gc:Env->Mem->Res Bool} (hc:DT fa X c gc) (ha:DE fa X a ga) (hb:DE fa X b gb):DE fa X (.IfExp c a b pos) (fun ρ M=>(gc ρ M).bind fun k M=>if k then ga ρ M else gb ρ M):=
  zco (zx6 hc ha hb) fun σ H Q ⟨μ,ρ,M,hE,hM,h⟩=>tT1 hE hM h fun k M1 H1 μ1 x1 hE1 hM1 h1=>by
    cases k with
    | true=>exact ⟨μ1,ρ,M1,hE1,hM1,okW h1 x1⟩
    | false=>exact ⟨μ1,ρ,M1,hE1,hM1,okW h1 x1⟩
theorem d_idx (ha:DE fa X a ga) (hb:DE fa X b gb) (hs:zg8 b):DE fa X (.Subscript a b pos) (fun ρ M=>(ga ρ M).bind fun x M=>(gb ρ M).bind fun y M=>ofO M (zg5 x y M)):=
  zco (pe_ix i_all ha hb hs) fun σ H Q ⟨μ,ρ,M,hE,hM,h⟩=>t2 hE hM h fun x y M2 v u H2 μ2 x2 hE2 hM2 r1 r2 h2=>by
    obtain ⟨d,e,q⟩:=zkp h2
    exact ⟨μ2,M2,x,y,d,hM2,r1,r2,e,q.ext x2⟩
def DO (fa:Fa) (X:Cx) (e:Option PySem.Expr) (hp:Bool) (g:Env->Mem->Res D):Prop:=PO X e fun σ H Q=>∃ μ ρ M,zbv fa X.K μ H σ ρ /\ RelM fa X.K μ H M /\ okE (g ρ M) fun d M'=>∃ o,zc7 hp d=true /\ zl9 d=some o /\ ∀ H' μ',Ext μ H μ' H'->RelM fa X.K μ' H' M'->Q o H'
theorem z14:DO fa X none false (fun _ M=>.ok .non M):=fun pins s σ H Q I ⟨μ,ρ,M,hE,hM,o,_,e,k⟩=>by
  cases e
  exact z08 pins s σ H Q I (k H μ .refl hM)
theorem z13 (ha:DE fa X a ga):DO fa X (some a) true ga:=fun pins s σ H Q I ⟨μ,ρ,M,hE,hM,h⟩=>z07 ha pins s σ H Q I ⟨μ,ρ,M,hE,hM,zbu h fun d M' ⟨o,p,e,k⟩ v H' μ' x m r=>by
  cases d with
  | int i=>cases e;exact ⟨i,r,k H' μ' x m⟩
  | _=>cases p⟩
theorem part_of {hp:Bool}{d:D} (h:zc7 hp d=true):∃ o,zl9 d=some o:=by
  cases hp<;>cases d<;>first | exact ⟨_,rfl⟩ | cases h
theorem d_slc (m hl hh:Bool) {lo hi:Option PySem.Expr}{gl gh:Env->Mem->Res D}{p2:Pos} (ha:DE fa X a ga) (hlo:DO fa X lo hl gl) (hhi:DO fa X hi hh gh):DE fa X (.Subscript a (.Slice lo hi none p2) pos)
    (fun ρ M=>(ga ρ M).bind fun x M=>(gl ρ M).bind fun l M=>(gh ρ M).bind fun h M=>if zc7 hl l&&zc7 hh h then zg4 m x l h M else .bad):=
  zco (zqh (z0i (fa:=fa) m) ha hlo hhi) fun σ H Q ⟨μ,ρ,M,hE,hM,h⟩=>t1 hE hM h fun x M1 v H1 μ1 x1 hE1 hM1 r1 h1=>by
    obtain ⟨l,M2,e2,h2⟩:=zbe h1
    obtain ⟨u,M3,e3,h3⟩:=zbe h2
    split at h3
    · next c=>
      rw [Bool.and_eq_true] at c
      obtain ⟨ol,el⟩:=part_of c.1
      obtain ⟨ou,eu⟩:=part_of c.2
      refine ⟨μ1,ρ,M1,hE1,hM1,?_⟩
      rw [e2]
      refine ⟨ol,c.1,el,fun H2 μ2 x2 hM2=>⟨μ2,ρ,M2,hE1.ext x2,hM2,?_⟩⟩
      rw [e3]
      exact ⟨ou,c.2,eu,fun H3 μ3 x3 hM3=>⟨μ3,M3,x,l,u,hM3,(r1.ext x2).ext x3,el,eu,okW h3 ((x1.trans x2).trans x3)⟩⟩
    · exact h3.elim
theorem da_nil:DA fa X [] (fun _ M=>.ok [] M):=zvn zfm fun σ H Q ⟨μ,ρ,M,hE,hM,h⟩=>h [] H μ .refl hM rfl
theorem z2c {es:List PySem.Expr}{gs:Env->Mem->Res (List D)} (ha:DE fa X a ga) (hs:DA fa X es gs) (h0:starEach (a::es) X.env=(false,eval a X.env)::starEach es X.env) :
    DA fa X (a::es) (fun ρ M=>(ga ρ M).bind fun x M=>(gs ρ M).bind fun xs M=>.ok (x::xs) M):=
  zvn (zdb ha hs h0) fun σ H Q ⟨μ,ρ,M,hE,hM,h⟩=>t1 hE hM h fun x M1 v H1 μ1 x1 hE1 hM1 r1 h1=>tA1 hE1 hM1 h1 fun xs M2 vs H2 μ2 x2 hE2 hM2 r2 h2=>h2 (v::vs) H2 μ2 (x1.trans x2) hM2 ⟨v,vs,rfl,r1.ext x2,r2⟩
theorem d_tup {es:List PySem.Expr}{gs:Env->Mem->Res (List D)}{k:Nat} (hs:DA fa X es gs):DE fa X (.Tuple es k pos) (fun ρ M=>(gs ρ M).bind zjk):=
  zco (pe_tup hs) fun σ H Q ⟨μ,ρ,M,hE,hM,h⟩=>tA1 hE hM h fun xs M1 vs H1 μ1 x1 hE1 hM1 r1 h1=>by
    unfold zjk at h1
    split at h1
    · next c=>exact ⟨by rw [r1.length,<- ze3];exact c,zg0 hM1 r1 (zbt.ext h1 x1)⟩
    · exact h1.elim
theorem d_lst (m:Bool) {es:List PySem.Expr}{gs:Env->Mem->Res (List D)} (hs:DA fa X es gs):DE fa X (.List es pos) (fun ρ M=>(gs ρ M).bind (zb5 m)):=
  zco (pe_lst hs) fun σ H Q ⟨μ,ρ,M,hE,hM,h⟩=>tA1 hE hM h fun xs M1 vs H1 μ1 x1 hE1 hM1 r1 h1=>by
    obtain ⟨c,k⟩:=zgf hM1 r1 (okW h1 x1)
    exact ⟨by rw [r1.length,<- ze3];exact c,k⟩
end
end LD
namespace LD
open PySem PySem.Spec PyProof.Rows L2
theorem zog (o:Obj) (f:Array Value->Array Value):(o.mapFields f).dict=o.dict:=by
  obtain ⟨c,d,dt,sl⟩:=o
  cases dt<;>rfl
section
variable {P:Program}{w:World}{M:Model}{A:Around}{E:Value->Shared->Prop}{base:Heap}{env:PySem.Env}{outer:List PySem.Env}{L a C:Addr}{dx:Option Addr}{New:Addr->Prop}{H:Hp}{s:Shared}{Q:Unit->Shared->Prop}
theorem zr9 {oe:Obj}{vs:Array Value}{head:Value}{had:Bool} (hfr:A.frames=some (env::outer)) (hl:s.heap.FunFrames base (env::outer)) (hf:env.frame=some L)
    (he:s.heap.get? a=some oe) (hd:oe.data=.fields vs) (hsz:1 < vs.size)
    (h:∀ h' T oT ts,(∀ b o,b∉frs (env::outer)->b≠a->s.heap.get? b=some o->h'.get? b=some o)->(∀ b o,b≠a->s.heap.get? b=some o->∃ sl,h'.get? b=some {o with slots:=sl})->s.heap.objs.size≤T->T≠a->
      h'.get? a=some (oe.mapFields (·.setIfInBounds 1 (.ref T)))->h'.get? T=some oT->oT.data=.fields ts->ts[3]?=some .none->Q () {s with heap:=h'}) :
    wpAny M A (do let f <- frameOf env;let pl <- entryPlaceOf L had;let b <- EntryCells.newEntry head f .none (rawInt L) .none pl;setField (.ref a) 1 b) (fun _ s'=>wpAny M A (setFlight (.ref a) none) Q E s') E s:=by
  have hene:a∉frs (env::outer):=fun hm=>by
    obtain ⟨_,o,ho,hnf⟩:=hl.mem hm
    rw [he] at ho;cases ho;exact hnf vs hd
  refine wpAny_bind (wpAny_frameOf_fun hfr hl hf fun h₁ hs₁=>?_)
  refine wpAny_bind (wpAny_entryPlaceOf fun pl hpl=>?_)
  unfold EntryCells.newEntry newFields
  refine wpAny_bind (wpAny_newObj_type ?_ (hpl.sizeOk5 _ _ _ _ _))
  have he₁:h₁.get? a=some oe:=(hs₁.2.1 a hene).trans he
  generalize ho:({cls:=.type "traceback",dict:=none,data:=.fields ([head,.ref L,.none,rawInt L,.none]++(if pl.isEmpty then List.replicate 6 Value.none else pl)).toArray}:Obj)=o
  have hod:o.data=.fields ([head,.ref L,.none,rawInt L,.none]++(if pl.isEmpty then List.replicate 6 Value.none else pl)).toArray:=by rw [<- ho]
  have he₂:=Heap.get?_push_of_some (h:=h₁) o he₁
  refine wpAny_setField he₂ hd hsz ?_
  have hTe:h₁.objs.size≠a:=Nat.ne_of_gt (Heap.lt_size he₁)
  have hd₃:=Obj.data_mapFields hd (·.setIfInBounds 1 (Value.ref h₁.objs.size))
  have he₃:=Heap.get?_update_self (Obj.mapFields (·.setIfInBounds 1 (Value.ref h₁.objs.size))) he₂ (Obj.isFreed_of_fields hd₃)
  have hT₃:=(Heap.get?_update_other (h₁.push o) (Obj.mapFields (·.setIfInBounds 1 (Value.ref h₁.objs.size))) (Ne.symm hTe)).trans (Heap.get?_push_size h₁ (Obj.isFreed_of_fields hod))
  unfold setFlight
  refine wpAny_bind (wpAny_field he₃ hd₃ (x:=.ref h₁.objs.size) (by simp [hsz]) ?_)
  rw [if_pos (show (Value.ref h₁.objs.size != Value.none)=true from by simp)]
  refine wpAny_setField hT₃ hod (by simp only [List.size_toArray,List.length_append,List.length_cons,List.length_nil]<;>omega) ?_
  have keep:∀ b u,b≠a->h₁.get? b=some u->(((h₁.push o).update a (Obj.mapFields (·.setIfInBounds 1 (Value.ref h₁.objs.size)))).update h₁.objs.size (Obj.mapFields (·.setIfInBounds 3 ((none:Option Addr).elim Value.none fun f=>rawInt f)))).get? b=some u:=fun b u hbe hb=>by
    have hbT:h₁.objs.size≠b:=Nat.ne_of_gt (Heap.lt_size hb)
    rw [Heap.get?_update_other _ _ hbT,Heap.get?_update_other _ _ (Ne.symm hbe)]
    exact Heap.get?_push_of_some _ hb
  refine h _ h₁.objs.size _ _ (fun b u hb hbe q=>keep b u hbe ((hs₁.2.1 b hb).trans q)) (fun b u hbe q=>?_) (Nat.le_of_eq hs₁.1.symm) hTe ?_ (Heap.get?_update_self _ hT₃ (Obj.isFreed_of_fields (Obj.data_mapFields hod _))) (Obj.data_mapFields hod _) ?_
  · obtain ⟨sl,e⟩:=hs₁.2.2 b u q
    exact ⟨sl,keep b _ hbe e⟩
  · rw [Heap.get?_update_other _ _ hTe];exact he₃
  · first | (simp;done) | (rcases hpl with rfl | ⟨_,_,_,_,_,_,_,rfl⟩<;>simp)
theorem zsl (hfr:A.frames=some (env::outer)) (hl:s.heap.FunFrames base (env::outer)) (hf:env.frame=some L) (hF:Fly New C dx a s.heap H) (hN:∀ b,s.heap.objs.size≤b->New b) (hok:HOk P w H s.heap) (hfree:∀ b∈frs (env::outer),H b=none)
    (h:∀ h' ch,(∀ b∈ch,New b /\ H b=none /\ ∃ o vs,s.heap.get? b=some o /\ o.data=.fields vs)->Un (frs (env::outer)) ch H H s.heap h'->HOk P w H h'->Fly New C dx a h' H->Q () {s with heap:=h'}) :
    wpAny M A (noteFrame (.ref a) env) (fun _ s1=>wpAny M A (setFlight (.ref a) none) Q E s1) E s:=by
  obtain ⟨na,ha,oe,vs,he,hc,hdx,hd,tr⟩:=hF
  have fin:∀ h' ch,(∀ b∈ch,New b /\ H b=none /\ ∃ o vs,s.heap.get? b=some o /\ o.data=.fields vs)->(∀ b o,b∉frs (env::outer)->b∉ch->s.heap.get? b=some o->h'.get? b=some o)->(∀ b o,b∉ch->s.heap.get? b=some o->∃ sl,h'.get? b=some {o with slots:=sl})->Fly New C dx a h' H->Q () {s with heap:=h'}:=fun h' ch hch keep slot fl=>by
    refine h h' ch hch ⟨fun b o q _ hb hx=>keep b o hb hx q,fun b o q _ _ hx=>slot b o hx q,fun _ _ _ n _=>n,fun b o q hx=>let ⟨sl,e⟩:=slot b o hx q;⟨_,e⟩,fun _ _ e=>e,fun _ _ _ e=>e,fun b ps e=>⟨#[],by rw [e];simp⟩⟩ (fun b u e=>(hok b u e).stay (fun c v hc q=>?_) (fun _ q=>q) fun _ _ q=>q) fl
    have nn:H c≠none:=by rcases hc with z | z<;>(intro z';first | (rw [z,e] at z';cases z') | (rw [z] at z';cases z'))
    exact keep c v (fun z=>nn (hfree c z)) (fun z=>nn (hch c z).2.1) q
  unfold noteFrame
  simp only [hf]
  rcases tr with h1 | ⟨T,oT,ts,h1,hTa,nT,hT0,hT,hdT,h3⟩
  · refine wpAny_bind (wpAny_field he hd h1 ?_)
    rw [if_neg (by decide)]
    refine zr9 hfr hl hf he hd (Array.getElem?_eq_some_iff.mp h1).1 fun h' T oT ts k1 k2 k3 k4 k5 k6 k7 k8=>?_
    refine fin h' [a] (fun b hb=>?_) (fun b o hb hx q=>k1 b o hb (fun z=>hx (by simp [z])) q) (fun b o hx q=>k2 b o (fun z=>hx (by simp [z])) q) ⟨na,ha,_,_,k5,?_,?_,Obj.data_mapFields hd _,.inr ⟨T,oT,ts,by simp [(Array.getElem?_eq_some_iff.mp h1).1],k4,hN _ k3,hok.fresh k3,k6,k7,k8⟩⟩
    · rcases List.mem_singleton.mp hb with rfl
      exact ⟨na,ha,oe,vs,he,hd⟩
    · rw [Obj.cls_mapFields];exact hc
    · rw [zog];exact hdx
  · refine wpAny_bind (wpAny_field he hd h1 ?_)
    rw [if_pos (show (Value.ref T != Value.none)=true from by simp)]
    refine wpAny_bind (wpAny_field hT hdT h3 ?_)
    rw [if_neg (show ¬ ((Value.none==rawInt L)=true) from by simp [rawInt])]
    refine wpAny_bind (wpAny_setField hT hdT (Array.getElem?_eq_some_iff.mp h3).1 ?_)
    have other:∀ b,b≠T->(s.heap.update T (Obj.mapFields (·.setIfInBounds 3 Value.none))).get? b=s.heap.get? b:=fun b hb=>Heap.get?_update_other _ _ (Ne.symm hb)
    have noRec:∀ b o,s.heap.get? b=some o->(∀ vs,o.data≠.fields vs)->b≠T:=fun b o hb hnf q=>by
      rw [q,hT] at hb;cases hb;exact hnf ts hdT
    have hz:(s.heap.update T (Obj.mapFields (·.setIfInBounds 3 Value.none))).objs.size=s.heap.objs.size:=Heap.size_after_update ..
    refine zr9 (s:={s with heap:=s.heap.update T (Obj.mapFields (·.setIfInBounds 3 Value.none))}) hfr (hl.of_keeps fun b o hb hnf=>⟨o,(other b (noRec b o hb hnf)).trans hb,rfl⟩) hf ((other a (Ne.symm hTa)).trans he) hd (Array.getElem?_eq_some_iff.mp h1).1 fun h' T' oT' ts' k1 k2 k3 k4 k5 k6 k7 k8=>?_
    have k3:s.heap.objs.size≤T':=by rw [<- hz];exact k3
    refine fin h' [a,T] (fun b hb=>?_) (fun b o hb hx q=>k1 b o hb (fun z=>hx (by simp [z])) ((other b (fun z=>hx (by simp [z]))).trans q)) (fun b o hx q=>k2 b o (fun z=>hx (by simp [z])) ((other b (fun z=>hx (by simp [z]))).trans q)) ⟨na,ha,_,_,k5,?_,?_,Obj.data_mapFields hd _,.inr ⟨T',oT',ts',by simp [(Array.getElem?_eq_some_iff.mp h1).1],k4,hN _ k3,hok.fresh k3,k6,k7,k8⟩⟩
    · rcases List.mem_cons.mp hb with rfl | hb
      · exact ⟨na,ha,oe,vs,he,hd⟩
      · rcases List.mem_singleton.mp hb with rfl
        exact ⟨nT,hT0,oT,ts,hT,hdT⟩
    · rw [Obj.cls_mapFields];exact hc
    · rw [zog];exact hdx
end
def CXE (P:Program) (w:World):CXT:=fun outer H s E e s'=>∃ a C dx H',e=.ref a /\ s'.os=s.os /\ AllBare s'.gens /\ Un (frs outer) [] H H' s.heap s'.heap /\ HOk P w H' s'.heap /\ Fly (fun b=>s.heap.get? b=none) C dx a s'.heap H' /\ E (.ref C) dx H'
theorem Fly.imp {New New':Addr->Prop}{C a:Addr}{dx:Option Addr}{h:Heap}{H:Hp} (f:Fly New C dx a h H) (i:∀ b,New b->New' b):Fly New' C dx a h H:=by
  obtain ⟨na,ha,o,vs,h1,h2,h3,h4,tr⟩:=f
  refine ⟨i _ na,ha,o,vs,h1,h2,h3,h4,?_⟩
  rcases tr with t | ⟨T,oT,ts,t1,t2,t3,t4⟩
  · exact .inl t
  · exact .inr ⟨T,oT,ts,t1,t2,i _ t3,t4⟩
section
variable {P:Program}{w:World}{K:PySem.W.Frag}{mg:Str->Option Value}{base:Heap}{N:List Str}{qual:Str}{scope:Scope}{f:Addr}{cd:Value}{A:Around}{outer:List PySem.Env}{s:Shared}{H:Hp}{E:XK}
theorem zyl {pins:List (Addr×Obj)}{σ:L2.St}{H':Hp}{s':Shared}{a C:Addr}{dx:Option Addr} (I:Inv (zb0 (CXE P w) P w K mg base N qual scope f cd A outer s H E) pins σ H' s') (hF:Fly (NewX (zb0 (CXE P w) P w K mg base N qual scope f cd A outer s H E)) C dx a s'.heap H') (hE:E (.ref C) dx H') :
    (zb0 (CXE P w) P w K mg base N qual scope f cd A outer s H E).xe (.ref a) s':=by
  have hst:=I.stack
  have hsz:s.heap.objs.size≤s'.heap.objs.size:=I.sz
  have hL:∀ b o,s.heap.get? b=some o->b∈frs (envOfC qual scope s.heap.objs.size f cd::outer)->b∈frs outer:=fun b o q hb=>by
    rcases List.mem_cons.mp (show b∈s.heap.objs.size::frs outer from hb) with e | e
    · exact absurd (Heap.lt_size q) (by rw [e];exact Nat.lt_irrefl _)
    · exact e
  unfold zb0
  dsimp only
  unfold leaving
  refine wpAny_bind (zsl (P:=P) (w:=w) (New:=fun b=>s.heap.get? b=none) I.ok.frames hst rfl (hF.imp fun b z=>z.1) (fun b z=>Heap.get?_none_of_le (Nat.le_trans hsz z)) I.hok I.stkFree fun h' ch hch u hok fl=>?_)
  have nch:∀ b o,s.heap.get? b=some o->b∉ch:=fun b o q z=>by have:=(hch b z).1;rw [q] at this;cases this
  have hb0:Un (frs outer) [] H H' s.heap s'.heap:=I.base
  refine ⟨a,C,dx,H',rfl,I.os,I.bare,⟨fun b o q n hb hx=>?_,fun b o q n hb hx=>?_,hb0.free,fun b o q hx=>?_,hb0.tups,hb0.frzs,hb0.tbls⟩,hok,fl,hE⟩
  · exact u.keep b o (hb0.keep b o q n hb hx) (hb0.free b o q n hx) (fun z=>hb (hL b o q z)) (nch b o q)
  · obtain ⟨sl,e⟩:=hb0.slot b o q n hb hx
    obtain ⟨sl',e'⟩:=u.any e (hb0.free b o q n hx) (nch b o q)
    exact ⟨sl',e'⟩
  · obtain ⟨o',e⟩:=hb0.there b o q hx
    exact u.there b o' e (nch b o q)
end
section
variable {X:Cx}{pins:List (Addr×Obj)}{σ:L2.St}{H H':Hp}{s s':Shared}{E:XK}{e:Value}
theorem zwb (I:Inv X pins σ H s) (hx:X.ex=[]) (h:CXE X.prog X.w X.stack H s E e s'):∃ a C dx H',e=.ref a /\ Inv X pins σ H' s' /\ Fly (NewX X) C dx a s'.heap H' /\ E (.ref C) dx H':=by
  obtain ⟨a,C,dx,H',rfl,os,bare,un,hok,fl,q⟩:=h
  refine ⟨a,C,dx,H',rfl,I.call' os un hok bare (fun b z=>absurd z (by simp)),fl.imp fun b z=>⟨?_,fun p hp e=>?_⟩,q⟩
  · cases e:X.s₀.heap.get? b with
    | none=>rfl
    | some o =>
      obtain ⟨o',e'⟩:=I.base.there b o e (by rw [hx];simp)
      rw [z] at e';cases e'
  · have:=(I.pin p (List.mem_append_left _ hp)).1
    rw [e,z] at this;cases this
theorem zyq {h':Heap}{ch:List Addr} (I:Inv X pins σ H s) (hch:∀ b∈ch,X.s₀.heap.get? b=none /\ (∃ o vs,s.heap.get? b=some o /\ o.data=.fields vs) /\ ∀ p∈X.pn++pins,p.1≠b) (u:Un (frs X.stack) ch H H s.heap h') (hok:HOk X.prog X.w H h'):Inv X pins σ H {s with heap:=h'}:=by
  obtain ⟨m,⟨o,es,ep,ho,hd,r⟩,hl⟩:=id I.loc
  have neL:X.env.locals∉ch:=fun z=>by
    obtain ⟨o',vs,e,d⟩:=(hch _ z).2.1
    rw [ho] at e;cases e;rw [hd] at d;cases d
  have neC:∀ x c,X.env.cells.lookup x=some c->c∉ch:=fun x c e z=>by
    obtain ⟨o',vs,e',d⟩:=(hch _ z).2.1
    obtain ⟨v,o2,e2,d2⟩:=I.cell x c e
    rw [e2] at e';cases e';rw [d2] at d;cases d
  have n0:∀ b o,X.s₀.heap.get? b=some o->b∉ch:=fun b o e z=>by rw [(hch b z).1] at e;cases e
  have nst:∀ b o,X.s₀.heap.get? b=some o->b∉X.fs->b∉frs X.stack:=fun b o e n z=>(List.mem_cons.mp (I.stkSub b z)).elim (fun q=>absurd (Heap.lt_size e) (by rw [q];exact Nat.not_lt.mpr I.ok.above)) n
  obtain ⟨sl,hL⟩:=u.any ho I.free neL
  have cellK:∀ x c,X.env.cells.lookup x=some c->∀ v,s.heap.IsCell c v->h'.IsCell c v:=fun x c e v ⟨o,ho,hd⟩=>by
    obtain ⟨sl,q⟩:=u.any ho (I.freeC x c e) (neC x c e)
    exact ⟨_,q,hd⟩
  refine ⟨I.ok,I.os,I.bare,⟨fun b o e n hb hx=>?_,fun b o e n hb hx=>?_,I.base.free,fun b o e hx=>?_,I.base.tups,I.base.frzs,I.base.tbls⟩,⟨m,⟨_,es,ep,hL,hd,r⟩,fun i x v e1 e2 e3=>?_⟩,fun x c e=>?_,I.free,I.freeC,fun p hp=>?_,hok,I.len⟩
  · exact u.keep b o (I.base.keep b o e n hb hx) (I.base.free b o e n hx) (nst b o e hb) (n0 b o e)
  · obtain ⟨sl,e1⟩:=I.base.slot b o e n hb hx
    obtain ⟨sl',e2⟩:=u.any e1 (I.base.free b o e n hx) (n0 b o e)
    exact ⟨sl',e2⟩
  · obtain ⟨o',e1⟩:=I.base.there b o e hx
    exact u.there b o' e1 (n0 b o e)
  · obtain ⟨u',r',l⟩:=hl i x v e1 e2 e3
    refine ⟨u',r',?_⟩
    rcases l with l | ⟨k,c,e,z⟩
    · exact .inl l
    · exact .inr ⟨k,c,e,cellK x c e _ z⟩
  · obtain ⟨v,z⟩:=I.cell x c e
    exact ⟨v,cellK x c e v z⟩
  · obtain ⟨e,n,ne,nf,d⟩:=I.pin p hp
    exact ⟨u.keep p.1 p.2 e n (fun z=>(List.mem_cons.mp (I.stkSub _ z)).elim ne nf) fun z=>(hch _ z).2.2 p hp rfl,n,ne,nf,d⟩
theorem zv8 {a:Addr}{o:HO} (I:Inv X pins σ H s) (hx:X.ex=[]) (hn:H a=none) (h0:X.s₀.heap.get? a=none) (hf:∃ ob vs,s.heap.get? a=some ob /\ ob.data=.fields vs) (hp:∀ p∈X.pn++pins,p.1≠a) (new:zdm X.prog X.w (upd H a o) s.heap a o):Inv X pins σ (upd H a o) s:=by
  obtain ⟨ob,vs,hob,hd⟩:=hf
  have ne:∀ b u,H b=some u->b≠a:=fun b u e=>zbh e hn
  refine ⟨I.ok,I.os,I.bare,⟨I.base.keep,I.base.slot,fun b o e n hx=>?_,I.base.there,fun b xs e=>?_,fun b o u e=>?_,fun b ps e=>?_⟩,I.loc,I.cell,?_,fun x c e=>?_,fun p hp'=>?_,fun b u e=>?_,I.len⟩
  · rw [za1 (fun z=>by rw [z,h0] at e;cases e)];exact I.base.free b o e n hx
  · have q:=I.base.tups b xs e
    rw [za1 (ne b _ q)];exact q
  · have q:=I.base.frzs b o u e
    rw [za1 (ne b _ q)];exact q
  · obtain ⟨m,q⟩:=I.base.tbls b ps e
    exact ⟨m,by rw [za1 (ne b _ q)];exact q⟩
  · obtain ⟨m,⟨oL,es,ep,ho,hdL,_⟩,_⟩:=id I.loc
    rw [za1 (fun z=>by rw [z,hob] at ho;cases ho;rw [hd] at hdL;cases hdL)];exact I.free
  · obtain ⟨v,o2,e2,d2⟩:=I.cell x c e
    rw [za1 (fun z=>by rw [z,hob] at e2;cases e2;rw [hd] at d2;cases d2)];exact I.freeC x c e
  · obtain ⟨e,n,r⟩:=I.pin p hp'
    exact ⟨e,by rw [za1 (hp p hp')];exact n,r⟩
  · by_cases hb:b=a
    · subst hb
      rw [zc8] at e;cases e
      exact new
    · rw [za1 hb] at e
      exact (I.hok b u e).stay (fun c v _ q=>q) (fun c q=>by rw [za1 (ne c _ q)];exact q) fun c xs q=>by rw [za1 (ne c _ q)];exact q
end
def okX {α:Type} (r:Res α) (k:α->Mem->Prop) (kx:D->Mem->Prop):Prop:=match r with
  | .ok a M=>k a M
  | .err x M=>kx x M
  | .bad=>False
theorem zvv {α:Type}{r:Res α}{k:α->Mem->Prop}{kx:D->Mem->Prop} (h:okE r k):okX r k kx:=by
  cases r with
  | ok a M=>exact h
  | err=>exact h.elim
  | bad=>exact h
def zuf (fa:Fa) (K:PySem.W.Frag) (μ:Mu) (H:Hp) (E:XK) (x:D) (M':Mem):Prop:=∀ C dx c p H' μ',Ext μ H μ' H'->RelM fa K μ' H' M'->x=.exc c p->fa (cid c)=some C->XNum H' c dx p->E (.ref C) dx H'
theorem passE {P:Program}{w:World}{X:Cx}:Passes (CXE P w) X E0:=fun _ _ _ _ _ _ _ h=>let ⟨_,_,_,_,_,_,_,_,_,_,z⟩:=h;z.elim
end LD
namespace LD
open PySem PySem.Spec PyProof.Rows L2
def spD (fa:Fa) (K:PySem.W.Frag) (k:Nat) (call:List D->Mem->Res D):Sp:=fun vs H Q E=>vs.length=k /\ ∃ μ M ds,RelM fa K μ H M /\ za3 fa K μ H ds vs /\ okX (call ds M) (zbt fa K μ H Q) (zuf fa K μ H E)
def ze7 (fa:Fa) (P:Program) (w:World) (K:PySem.W.Frag) (mg:Str->Option Value) (base:Heap) (n:Nat) (f:Nat) (call:List D->Mem->Res D):Prop:=
  (∀ ds M,call ds M=.bad) \/ ∃ (ad:Addr) (fd:FuncData) (ps:List Str),fa f=some ad /\ PySem.W.keepIn K (.ref ad)=true /\ Binds K fd ps [] /\ (∀ ds M,ds.length≠ps.length->call ds M=.bad) /\ zgi P w K mg base (CXE P w) n ad fd ps (spD fa K ps.length call)
section
variable {fa:Fa}{X:Cx}{a b d:PySem.Expr}{ga gb gd:Env->Mem->Res D}{pos p:Pos}{es:List PySem.Expr}{gs:Env->Mem->Res (List D)}{n:Nat}
theorem zws {call:List D->Mem->Res D}{P:D->Mem->Prop}{r:Res (List D)} (hb:∀ ds M,call ds M=.bad) (h:okE (r.bind fun ds M=>call ds M) P):False:=by
  obtain ⟨ds,M,_,q⟩:=zbe h
  rw [hb] at q
  exact q
theorem zoi {call:List D->Mem->Res D}{k:Nat}{σ:L2.St}{H:Hp}{Q:VK}{μ:Mu}{ρ:Env}{M:Mem} (hE:zbv fa X.K μ H σ ρ) (hM:RelM fa X.K μ H M) (h:okE ((gs ρ M).bind fun ds M=>call ds M) (zbt fa X.K μ H Q))
    (hk:∀ ds M1,ds.length≠k->call ds M1=.bad):tCall (spD fa X.K k call) [] E0 (tA fa X.K gs) σ H Q:=by
  refine tA1 hE hM h fun ds M1 vs H1 μ1 x1 hE1 hM1 r1 h1=>?_
  rw [List.append_nil]
  refine ⟨?_,μ1,M1,ds,hM1,r1,zvv (okW h1 x1)⟩
  rw [r1.length]
  by_cases hl:ds.length=k
  · exact hl
  · rw [hk ds M1 hl] at h1;exact h1.elim
theorem d_call {f:Nat}{x:Str}{call:List D->Mem->Res D} (C:ze7 fa X.prog X.w X.K X.mg X.base n f call) (hr:zbj n X.A) (hg:Gl X x) (hm:∀ ad,fa f=some ad->X.mg x=some (.ref ad)) (hs:DA fa X (a::es) gs)
    (hdb:(x==("__debug__":Str))=false) (he:starEach (a::es) X.env=(false,eval a X.env)::starEach es X.env) (hpl:(backTo pos (starEach es X.env)).any (·.1)=false) :
    DE fa X (.Call (.Name x p) (a::es) [] pos) (fun ρ M=>(gs ρ M).bind fun ds M=>call ds M):=by
  rcases C with hb | ⟨ad,fd,ps,h1,h2,h3,h4,F⟩
  · exact fun pins s σ H Q I ⟨μ,ρ,M,hE,hM,h⟩=>(zws hb h).elim
  · exact zco (z1c F hr hg (hm ad h1) h2 h3 .nil passE hs hdb he hpl) fun σ H Q ⟨μ,ρ,M,hE,hM,h⟩=>zoi hE hM h h4
theorem z2d {i:Nat}{x:Str}{call:Nat->List D->Mem->Res D} (C:∀ f,ze7 fa X.prog X.w X.K X.mg X.base n f (call f)) (hr:zbj n X.A) (hN:X.N[i]?=some x) (hv:Vis X.env.scope x) (hs:DA fa X (a::es) gs)
    (hd:(x==("__debug__":Str))=false) (hcd:(x==("__classdict__":Str))=false) (he:starEach (a::es) X.env=(false,eval a X.env)::starEach es X.env) (hpl:(backTo pos (starEach es X.env)).any (·.1)=false) :
    DE fa X (.Call (.Name x p) (a::es) [] pos) (fun ρ M=>match ρ[i]?.getD none with | some (.fn f)=>(gs ρ M).bind fun ds M=>call f ds M | _=>.bad):=by
  intro pins s σ H Q I ⟨μ,ρ,M,hE,hM,h⟩
  dsimp only at h
  cases e:ρ[i]?.getD none with
  | none=>rw [e] at h;exact h.elim
  | some df =>
    cases df with
    | fn f =>
      rw [e] at h
      simp only at h
      have e':ρ[i]?=some (some (.fn f)):=by
        cases q:ρ[i]? with
        | none=>rw [q] at e;cases e
        | some o=>rw [q] at e;simp at e;rw [e]
      obtain ⟨v,hv1,hv2⟩:=hE.at' i _ e'
      obtain ⟨ad,rfl,had⟩:=hv2
      rcases C f with hb | ⟨ad',fd,ps,h1,h2,h3,h4,F⟩
      · exact (zws hb h).elim
      · rw [had] at h1;cases h1
        refine wpAny_Call_Name_kw (thn (zqg hN hv hd hcd pins s σ H (fun v H'=>v=.ref ad /\ H'=H) I ⟨_,hv1,rfl,rfl⟩) fun u s1 ⟨v,H1,I1,r1,e1,e2⟩=>?_)
        subst e1 e2
        obtain rfl:u=Value.ref ad:=r1
        refine PySem.W.callWith_K (h₀:=X.base) I1.ok.mod.kin h2 (thn (hs pos pins s1 σ H1 _ I1 (zoi hE hM h h4)) fun us s2 ⟨vs,H2,I2,r,q⟩=>⟨I2.kIn,?_⟩) he hpl
        exact zvd F hr h3 .nil passE I2 r q
    | _=>rw [e] at h;exact h.elim
theorem d_blt (f:Blt) {x:Str}{id:String} (hc:zdn X (.builtin id) (rBlt fa X.K f)) (hg:Gl X x) (hm:X.mg x=none) (hv:bootBuiltins x=some (.builtin id)) (hs:DA fa X (a::es) gs) (hn:x≠"__name__") (hdb:(x==("__debug__":Str))=false)
    (he:starEach (a::es) X.env=(false,eval a X.env)::starEach es X.env) (hpl:(backTo pos (starEach es X.env)).any (·.1)=false):DE fa X (.Call (.Name x p) (a::es) [] pos) (fun ρ M=>(gs ρ M).bind fun ds M=>ze5 f ds M):=
  zco (zic hc hg hm hv hs hn hdb he hpl) fun σ H Q ⟨μ,ρ,M,hE,hM,h⟩=>tA1 hE hM h fun ds M1 vs H1 μ1 x1 hE1 hM1 r1 h1=>⟨μ1,M1,ds,hM1,r1,okW h1 x1⟩
theorem zwi (f:Blt) {x:Str}{T:String} (hc:zdn X (.type T) (rBlt fa X.K f)) (hg:Gl X x) (hm:X.mg x=none) (hv:bootBuiltins x=some (.type T)) (hs:DA fa X (a::es) gs) (hn:x≠"__name__") (hdb:(x==("__debug__":Str))=false)
    (he:starEach (a::es) X.env=(false,eval a X.env)::starEach es X.env) (hpl:(backTo pos (starEach es X.env)).any (·.1)=false):DE fa X (.Call (.Name x p) (a::es) [] pos) (fun ρ M=>(gs ρ M).bind fun ds M=>ze5 f ds M):=
  zco (zvk hc hg hm hv hs hn hdb he hpl) fun σ H Q ⟨μ,ρ,M,hE,hM,h⟩=>tA1 hE hM h fun ds M1 vs H1 μ1 x1 hE1 hM1 r1 h1=>⟨μ1,M1,ds,hM1,r1,okW h1 x1⟩
theorem d_inst (t:Ty) (ht:∀ c,t≠.own c) {x:Str}{p1 p2:Pos} (ha:DE fa X a ga) (hg:Gl X "isinstance") (hm:X.mg "isinstance"=none) (hv:bootBuiltins "isinstance"=some (.builtin "isinstance")) (hgt:Gl X x) (hmt:X.mg x=none) (hvt:bootBuiltins x=some (.type (tyName t)))
    (hn:x≠"__name__") (hdb:(x==("__debug__":Str))=false)
    (he:starEach [a,.Name x p1] X.env=(false,eval a X.env)::starEach [.Name x p1] X.env):DE fa X (.Call (.Name "isinstance" p2) [a,.Name x p1] [] pos) (fun ρ M=>(ga ρ M).bind fun x M=>(ofO M (zcj t x)).bind fun b M=>.ok (.bl b) M):=
  zco (zic (f_inst (fa:=fa) t ht) hg hm hv (zdb ha (zdb (zsk hgt hmt hvt (v:=.ty (tyName t)) rfl hn hdb) zfm (by rfl)) he) (by decide) (by decide) he (by rfl)) fun σ H Q ⟨μ,ρ,M,hE,hM,h⟩=>t1 hE hM h fun x M1 v H1 μ1 x1 hE1 hM1 r1 h1=>by
    obtain ⟨b,e,q⟩:=zmf h1
    exact ⟨μ1,M1,x,v,b,rfl,hM1,r1,e,zbm (v:=.bl b) hM1 (q.ext x1) rfl⟩
def gT (fa:Fa) (K:PySem.W.Frag) (t:Tgt):TG:=fun v σ H Q=>∃ μ ρ M d ρ1,zbv fa K μ H σ ρ /\ RelM fa K μ H M /\ Rep fa K μ H d v /\ zde t d ρ=some ρ1 /\ ∀ σ1,zbv fa K μ H σ1 ρ1->Q σ1 H
theorem zvi {tg:PySem.Expr}{g g':TG} (h:PG X tg g) (i:∀ v σ H Q,g' v σ H Q->g v σ H Q):PG X tg g':=fun pins s σ H v u Q I r q=>h pins s σ H v u Q I r (i v σ H Q q)
theorem zsi {tg:List PySem.Expr}{g g':TGs} (h:PGs X tg g) (i:∀ v σ H Q,g' v σ H Q->g v σ H Q):PGs X tg g':=fun pins s σ H v u Q I r q=>h pins s σ H v u Q I r (i v σ H Q q)
theorem z19 {i:Nat}{x:Str} (hN:X.N.Nodup) (hi:X.N[i]?=some x) (hx:Loc X.env.scope x) (hf:X.fn x=true \/ X.env.scope.names.lookup x=some .local):PG X (.Name x pos) (gT fa X.K (.one i)):=
  zvi (zsj hN hi hx hf) fun v σ H Q ⟨μ,ρ,M,d,ρ1,hE,hM,r,e,k⟩=>by
    have e':ρ.set i (some d)=ρ1:=Option.some.inj e
    subst e'
    exact k _ (hE.set r)
def gNames (fa:Fa) (K:PySem.W.Frag) (l:List Nat):TGs:=fun vs σ H Q=>∃ μ ρ M ds ρ1,zbv fa K μ H σ ρ /\ RelM fa K μ H M /\ za3 fa K μ H ds vs /\ zfw l ds ρ=some ρ1 /\ ∀ σ1,zbv fa K μ H σ1 ρ1->Q σ1 H
inductive zin (X:Cx):List Nat->List PySem.Expr->Prop
  | nil:zin X [] []
  | cons {i:Nat}{x:Str}{p:Pos}{l:List Nat}{ns:List PySem.Expr} (hi:X.N[i]?=some x) (hx:Loc X.env.scope x) (hf:X.fn x=true \/ X.env.scope.names.lookup x=some .local) (r:zin X l ns):zin X (i::l) (.Name x p::ns)
theorem zin.each {l:List Nat}{ns:List PySem.Expr} (h:zin X l ns):(assignEach ns X.env).length=l.length /\ (assignEach ns X.env).findIdx? (·.1)=none:=by
  induction h with
  | nil=>exact ⟨rfl,rfl⟩
  | cons hi hx hf r ih =>
    rename_i i x p l ns
    have e:assignEach (.Name x p::ns) X.env=(false,assign (.Name x p) X.env)::assignEach ns X.env:=rfl
    rw [e]
    refine ⟨by simp [ih.1],?_⟩
    rw [List.findIdx?_cons]
    simp [ih.2]
theorem zyy (hN:X.N.Nodup) {l:List Nat}{ns:List PySem.Expr} (h:zin X l ns):PGs X ns (gNames fa X.K l):=by
  induction h with
  | nil =>
    refine zsi z1a fun vs σ H Q ⟨μ,ρ,M,ds,ρ1,hE,hM,r,e,k⟩=>?_
    cases ds with
    | nil =>
      obtain rfl:vs=[]:=r
      have e':ρ=ρ1:=Option.some.inj e
      subst e'
      exact ⟨rfl,k _ hE⟩
    | cons=>cases e
  | cons hi hx hf r ih =>
    refine zsi (zx5 (zsj hN hi hx hf) ih (by rfl)) fun vs σ H Q ⟨μ,ρ,M,ds,ρ1,hE,hM,r,e,k⟩=>?_
    cases ds with
    | nil=>cases e
    | cons d ds =>
      obtain ⟨v,vr,rfl,r1,r2⟩:=r
      exact ⟨v,vr,rfl,μ,_,M,ds,ρ1,hE.set r1,hM,r2,e,k⟩
theorem zjv:∀ {l:List Nat}{ds:List D}{ρ ρ1:Env},zfw l ds ρ=some ρ1->ds.length=l.length
  | [],[],_,_,_=>rfl
  | _::_,[],_,_,h=>by cases h
  | [],_::_,_,_,h=>by cases h
  | _ :: l, _ :: ds, _, _, h => by
    have:=zjv (l:=l) (ds:=ds) h
    simp [this]
theorem dg_tup (hc:X.calm=true) (hN:X.N.Nodup) {l:List Nat}{ns:List PySem.Expr}{k:Nat} (h:zin X l ns):PG X (.Tuple ns k pos) (gT fa X.K (.tup l)):=
  zvi (pg_tup (n:=l.length) hc (zyy (fa:=fa) hN h) h.each.1 h.each.2) fun v σ H Q ⟨μ,ρ,M,d,ρ1,hE,hM,r,e,k⟩=>by
    cases d with
    | tup ds =>
      obtain ⟨a,vs,rfl,hq,r⟩:=r
      exact ⟨a,vs,rfl,hq,by rw [r.length];exact zjv e,μ,ρ,M,ds,ρ1,hE,hM,r,e,k⟩
    | _=>cases e
end
end LD
namespace LD
open PySem PySem.Spec PyProof.Rows L2
section
variable {fa:Fa}{X:Cx}{a b d:PySem.Expr}{ga gb gd:Env->Mem->Res D}{pos p:Pos}{es:List PySem.Expr}{gs:Env->Mem->Res (List D)}{n:Nat}
theorem ds_asg {tg:PySem.Expr}{t:Tgt} (ha:DE fa X a ga) (hg:PG X tg (gT fa X.K t)) (hs:swapsWithSole [tg] a pos.line X.env=pure false) (hw:swappedStores [tg] a X.env=pure none) (h1:(assignEach [tg] X.env).map (·.2)=[assign tg X.env]) :
    DS fa X (.Assign [tg] a pos) (fun ρ M=>(ga ρ M).bind fun x M=>(ofO M (zde t x ρ)).bind fun ρ1 M=>.ok (.next ρ1) M):=
  zgr (zqe ha hg hs hw h1) fun D σ H ⟨μ,ρ,M,hE,hM,h⟩=>t1 hE hM h fun x M1 v H1 μ1 x1 hE1 hM1 r1 h1=>by
    obtain ⟨ρ1,M2,e,q⟩:=zbe h1
    cases eb:zde t x ρ with
    | none=>rw [eb] at e;cases e
    | some ρ2 =>
      rw [eb] at e
      cases e
      exact ⟨μ1,ρ,M1,x,ρ1,hE1,hM1,r1,eb,fun σ1 hE2=>q σ1 H1 μ1 x1 hE2 hM1⟩
theorem zn1 {D':Ends}{μ:Mu}{H:Hp}{σ:L2.St}{ρ:Env}{M:Mem}{k:Nat}{ad:Addr}{ws:List V}{ds:List D} (hE:zbv fa X.K μ H σ ρ) (hM:RelM fa X.K μ H M) (hk:μ.pub k=some ad) (r:za3 fa X.K μ H ds ws)
    (q:∀ σ' H' μ',Ext μ H μ' H'->zbv fa X.K μ' H' σ' ρ->RelM fa X.K μ' H' (M.set k ds)->D'.nx σ' H'):D'.nx σ (upd H ad (.lst ws)):=
  q σ _ μ (Ext.write (vs:=ws) hM hk) (hE.ext (Ext.write (vs:=ws) hM hk)) (hM.write hk r)
theorem ds_put (ha:DE fa X a ga) (hb:DE fa X b gb) (hd:DE fa X d gd) {p2:Pos}
    (h0:∀ v,assign (.Subscript a b p2) X.env v=(do
      let ov <- holding [v] (eval a X.env)
      let iv <- holding [v,ov] (eval b X.env)
      standAt p2
      holding [v,ov,iv] (setItem ov iv v)
      release [v,ov,iv] [])) (hs:swapsWithSole [.Subscript a b p2] d pos.line X.env=pure false) (hw:swappedStores [.Subscript a b p2] d X.env=pure none) (h1:(assignEach [.Subscript a b p2] X.env).map (·.2)=[assign (.Subscript a b p2) X.env]) :
    DS fa X (.Assign [.Subscript a b p2] d pos) (fun ρ M=>(gd ρ M).bind fun z M=>(ga ρ M).bind fun x M=>(gb ρ M).bind fun y M=>match x,y with
      | .cell k, .int n => match M[k]? with
        | some ds => match ixN ds.length n with
          | some j=>.ok (.next ρ) (M.set k (ds.set j z))
          | none=>.bad
        | none=>.bad
      | _,_=>.bad):=
  zgr (zqe hd (pg_sub ha hb set_list h0) hs hw h1) fun D' σ H ⟨μ,ρ,M,hE,hM,h⟩=>t1 hE hM h fun z M1 v H1 μ1 x1 hE1 hM1 r1 h1=>t2 hE1 hM1 h1 fun x y M2 vx vy H2 μ2 x2 hE2 hM2 rx ry h2=>by
    have key:∀ k n,x=.cell k->y=.int n->rSetL vx vy v H2 fun H3=>D'.nx σ H3:=fun k n e1 e2=>by
      subst e1 e2
      dsimp only at h2
      cases e:M2[k]? with
      | none=>rw [e] at h2;exact h2.elim
      | some ds =>
        rw [e] at h2
        dsimp only at h2
        cases ej:LD.ixN ds.length n with
        | none=>rw [ej] at h2;exact h2.elim
        | some j =>
          rw [ej] at h2
          obtain ⟨ad,rfl,hk⟩:=rx
          obtain ⟨ad',ws,h3,h4,h5⟩:=hM2.at' k ds e
          rw [hk] at h3;cases h3
          have q:∀ σ' H' μ',Ext μ H μ' H'->zbv fa X.K μ' H' σ' ρ->RelM fa X.K μ' H' (M2.set k (ds.set j z))->D'.nx σ' H':=h2
          refine ⟨ad,ws,n,j,rfl,ry,h4,by rw [h5.length];exact ej,zn1 hE2 hM2 hk (h5.set j (r1.ext x2)) fun σ' H' μ' x' e' m'=>q σ' H' μ' ((x1.trans x2).trans x') e' m'⟩
    cases x with
    | cell k => cases y with
      | int n=>exact key k n rfl rfl
      | _=>exact h2.elim
    | _=>exact h2.elim
theorem ds_app (ha:DE fa X a ga) (hd:DE fa X d gd) {apos cpos:Pos} (hbase:attributeBase a "append" X.env (eval a X.env)=eval a X.env) (hline:(apos.endLine==cpos.line)=true) (hs:starEach [d] X.env=[(false,eval d X.env)])
    (hsw:swapsWith (.Call (.Attribute a "append" apos) [d] [] cpos) none pos.line X.env=pure false) :
    DS fa X (.Expr (.Call (.Attribute a "append" apos) [d] [] cpos) pos) (fun ρ M=>(ga ρ M).bind fun x M=>(gd ρ M).bind fun z M=>match x with
      | .cell k => match M[k]? with
        | some ds=>if ds.length < sz then .ok (.next ρ) (M.set k (ds++[z])) else .bad
        | none=>.bad
      | _=>.bad):=
  zgr (zsh (ztc PySem.F.plainAttrs_list PySem.F.slot_list_append PySem.F.type_list_append zob ha (zdb hd zfm hs) hbase (by rw [hs];rfl) hline hs (by rfl)) hsw) fun D' σ H ⟨μ,ρ,M,hE,hM,h⟩=>by
    obtain ⟨x,M1,e1,h1⟩:=zbe h
    obtain ⟨z,M2,e2,h2⟩:=zbe h1
    cases x with
    | cell k =>
      dsimp only at h2
      cases e:M2[k]? with
      | none=>rw [e] at h2;exact h2.elim
      | some ds =>
        rw [e] at h2
        dsimp only at h2
        split at h2
        · next hz=>
          have q:∀ σ' H' μ',Ext μ H μ' H'->zbv fa X.K μ' H' σ' ρ->RelM fa X.K μ' H' (M2.set k (ds++[z]))->D'.nx σ' H':=h2
          refine ⟨μ,ρ,M,hE,hM,?_⟩
          rw [e1]
          intro vx H1 μ1 x1 hM1 rx
          obtain ⟨ad,rfl,hk⟩:=rx
          obtain ⟨ds1,ws1,_,hH1,_⟩:=hM1.mu_lt hk
          refine ⟨.inl ⟨rfl,ws1,SqL.of hH1⟩,μ1,ρ,M1,hE.ext x1,hM1,?_⟩
          rw [e2]
          intro vz H2 μ2 x2 hM2 rz
          obtain ⟨ad',ws,h3,h4,h5⟩:=hM2.at' k ds e
          rw [x2.mu k ad hk] at h3;cases h3
          refine ⟨ad,ws,vz,rfl,rfl,h4,by rw [h5.length,<- ze3];exact hz,?_⟩
          exact zn1 ((hE.ext x1).ext x2) hM2 (x2.mu k ad hk) (h5.append (.one rz)) fun σ' H' μ' x' e' m'=>q σ' H' μ' ((x1.trans x2).trans x') e' m'
        · exact h2.elim
    | _=>exact h2.elim
theorem ds_ret (ha:DE fa X a ga):DS fa X (.Return (some a) pos) (fun ρ M=>(ga ρ M).bind fun x M=>.ok (.ret x) M):=
  zgr (ps_ret ha) fun D' σ H ⟨μ,ρ,M,hE,hM,h⟩=>by
    obtain ⟨x,M1,e,q⟩:=zbe h
    refine ⟨μ,ρ,M,hE,hM,?_⟩
    rw [e];exact q
theorem ds_pass:DS fa X (.Pass pos) (fun ρ M=>.ok (.next ρ) M):=zgr z05 fun D' σ H ⟨μ,ρ,M,hE,hM,h⟩=>h σ H μ .refl hE hM
theorem FlP.ext {μ μ':Mu}{H H':Hp}{D':Ends} (x:Ext μ H μ' H') {fl:Fl}{M:Mem} (q:FlP fa X μ H D' fl M):FlP fa X μ' H' D' fl M:=by
  cases fl with
  | next ρ'=>exact fun σ' H'' μ'' y e m=>q σ' H'' μ'' (x.trans y) e m
  | ret d=>exact zbt.ext q x
  | exc x' ρ'=>exact XW.ext q x
theorem okF {r:Res Fl}{μ μ':Mu}{H H':Hp}{D':Ends} (x:Ext μ H μ' H') (h:okE r (FlP fa X μ H D')):okE r (FlP fa X μ' H' D'):=zbu h fun fl M q=>q.ext x
theorem ds_ite {c:PySem.Expr}{gc:Env->Mem->Res Bool}{st sf:List PySem.Stmt}{gt gf:Env->Mem->Res Fl} (hc:DT fa X c gc) (ht:DSs fa X st gt) (hf:DSs fa X sf gf):DS fa X (.If c st sf pos) (fun ρ M=>(gc ρ M).bind fun k M=>if k then gt ρ M else gf ρ M):=
  zgr (ps_if hc ht hf) fun D' σ H ⟨μ,ρ,M,hE,hM,h⟩=>tT1 hE hM h fun k M1 H1 μ1 x1 hE1 hM1 h1=>by
    cases k with
    | true=>exact ⟨μ1,ρ,M1,hE1,hM1,okF x1 h1⟩
    | false=>exact ⟨μ1,ρ,M1,hE1,hM1,okF x1 h1⟩
theorem z12:DSs fa X [] (fun ρ M=>.ok (.next ρ) M):=zsg z04 fun D' σ H ⟨μ,ρ,M,hE,hM,h⟩=>h σ H μ .refl hE hM
theorem zyw {st:PySem.Stmt}{ss:List PySem.Stmt}{g:Env->Mem->Res Fl}{g':Env->Mem->Res Fl} (h1:DS fa X st g) (h2:DSs fa X ss g'):DSs fa X (st::ss) (fun ρ M=>(g ρ M).bind fun fl M=>match fl with
    | .next ρ=>g' ρ M
    | fl=>.ok fl M):=
  zsg (zx3 h1 h2) fun D' σ H ⟨μ,ρ,M,hE,hM,h⟩=>by
    obtain ⟨fl,M1,e,q⟩:=zbe h
    refine ⟨μ,ρ,M,hE,hM,?_⟩
    rw [e]
    cases fl with
    | next ρ1=>exact fun σ1 H1 μ1 x1 hE1 hM1=>⟨μ1,ρ1,M1,hE1,hM1,okF x1 q⟩
    | ret d=>exact q
    | exc x ρ1=>exact q
end
end LD
namespace LD
open PySem PySem.Spec PyProof.Rows L2
def zey (fa:Fa) (K:PySem.W.Frag) (μ0:Mu) (H0:Hp) (w:Walk) (J:It):Prop:=
  ∀ (μ:Mu) (H:Hp) (M:Mem) (ds:List D),ExtW μ0 H0 μ H->RelM fa K μ H M->w M=some ds->(∀ (i:Nat) (d:D),ds[i]?=some d->J.go i H /\ ∀ x H',J.yld i H x H'->Ext μ H μ H' /\ RelM fa K μ H' M /\ Rep fa K μ H' d x) /\ ∀ i,ds.length≤i->J.stop i H
def tI (fa:Fa) (K:PySem.W.Frag) (g:Env->Mem->Res Walk):TI:=fun σ H R=>∃ μ ρ M,zbv fa K μ H σ ρ /\ RelM fa K μ H M /\ okE (g ρ M) fun w M'=>∀ J H' μ',Ext μ H μ' H'->RelM fa K μ' H' M'->zey fa K μ' H' w J->R J H'
abbrev DI (fa:Fa) (X:Cx) (tg iter:PySem.Expr) (g:Env->Mem->Res Walk):Prop:=PI X tg iter (tI fa X.K g)
theorem zup {fa:Fa}{K:PySem.W.Frag}{μ0 μ1:Mu}{H0 H1:Hp}{w:Walk}{J:It} (h:zey fa K μ0 H0 w J) (x:ExtW μ0 H0 μ1 H1):zey fa K μ1 H1 w J:=fun μ H M ds y hM e=>h μ H M ds (x.trans y) hM e
section
variable {fa:Fa}{X:Cx}{tg a b d:PySem.Expr}{ga gb gd:Env->Mem->Res D}{pos p:Pos}{es:List PySem.Expr}{n:Nat}
theorem zuq {μ0:Mu}{H0:Hp}{dd:D}{ad:Addr} (h:Rep fa X.K μ0 H0 dd (.ref ad)):zey fa X.K μ0 H0 (fun M=>rdD M dd) (Itl X.K ad):=fun μ H M ds x hM e=>by
  obtain ⟨ad',vs,ea,s,r⟩:=zcf hM (Rep.extW x h) e
  cases ea
  refine ⟨fun i d hd=>?_,fun i hi=>⟨vs,s,by rw [r.length];exact hi⟩⟩
  obtain ⟨v,hv,rv⟩:=r.get hd
  refine ⟨⟨vs,v,s,hv⟩,fun y H' ⟨e,hy⟩=>?_⟩
  subst e
  have:=hy vs s
  rw [hv] at this;cases this
  exact ⟨.refl,hM,rv⟩
theorem zxb {μ0:Mu}{H0:Hp}{ds:List D}{ad:Addr} (h:Rep fa X.K μ0 H0 (.tup ds) (.ref ad)):zey fa X.K μ0 H0 (fun _=>some ds) (Itt X.K ad):=fun μ H M ds' x hM e'=>by
  cases e'
  obtain ⟨ad',vs,e,s,r⟩:=Rep.extW x h
  cases e
  refine ⟨fun i d hd=>?_,fun i hi=>⟨vs,s,by rw [r.length];exact hi⟩⟩
  obtain ⟨v,hv,rv⟩:=r.get hd
  refine ⟨⟨vs,v,s,hv⟩,fun y H' ⟨e,hy⟩=>?_⟩
  subst e
  have:=hy vs s
  rw [hv] at this;cases this
  exact ⟨.refl,hM,rv⟩
theorem zxd {μ0:Mu}{H0:Hp} (lo:Int) (n:Nat):zey fa X.K μ0 H0 (fun _=>some ((List.range n).map fun (k:Nat)=>D.int (lo+(k:Int)))) (Itr lo n):=fun μ H M ds x hM e=>by
  cases e
  refine ⟨fun i d hd=>?_,fun i hi=>(show n≤i by simpa using hi)⟩
  rw [List.getElem?_map] at hd
  by_cases hi:i < n
  · rw [List.getElem?_range hi] at hd
    have e:D.int (lo+(i:Int))=d:=Option.some.inj hd
    subst e
    refine ⟨hi,fun y H' ⟨e1,e2⟩=>?_⟩
    subst e1 e2
    exact ⟨.refl,hM,rfl⟩
  · rw [List.getElem?_eq_none (by simpa using hi)] at hd;cases hd
def zep (ga : Env -> Mem -> Res D) : Env -> Mem -> Res Walk := fun ρ M => (ga ρ M).bind fun x M => match x with
    | .lst ds=>.ok (fun _=>some ds) M
    | .tup ds=>.ok (fun _=>some ds) M
    | .frz ds=>.ok (fun _=>some ds) M
    | .cell k=>.ok (fun M=>M[k]?) M
    | _=>.bad
theorem di_seq (ha:DE fa X a ga):DI fa X tg a (zep ga):=fun pins s σ H R I ⟨μ,ρ,M,hE,hM,h⟩=>by
  obtain ⟨x,M1,e,q⟩:=zbe h
  have lst:(∀ μ' H',RelM fa X.K μ' H' M1->∀ v,Rep fa X.K μ' H' x v->∃ ds,rdD M1 x=some ds)->(∀ J H' μ',Ext μ H μ' H'->RelM fa X.K μ' H' M1->zey fa X.K μ' H' (fun M=>rdD M x) J->R J H')->
      wpAny (model X.prog X.w) X.A (eval a X.env) (fun v s1=>wpAny (model X.prog X.w) X.A (pyIter v) (PIE X pins σ tg R) X.xe s1) X.xe s:=fun hx q=>by
    refine z09 ha pins s σ H R I ⟨μ,ρ,M,hE,hM,?_⟩
    rw [e]
    intro v H1 μ1 x1 m1 r1
    obtain ⟨ds,er⟩:=hx μ1 H1 m1 v r1
    obtain ⟨ad,vs,rfl,s1,r⟩:=zcf m1 r1 er
    exact ⟨ad,rfl,⟨vs,s1⟩,q _ H1 μ1 x1 m1 (zuq r1)⟩
  cases x with
  | lst ds=>exact lst (fun _ _ _ _ _=>⟨ds,rfl⟩) q
  | frz ds=>exact lst (fun _ _ _ _ _=>⟨ds,rfl⟩) q
  | tup ds =>
    refine pi_tup ha pins s σ H R I ⟨μ,ρ,M,hE,hM,?_⟩
    rw [e]
    intro v H1 μ1 x1 m1 r1
    obtain ⟨ad,vs,rfl,s1,r⟩:=id r1
    exact ⟨ad,rfl,⟨vs,s1⟩,q _ H1 μ1 x1 m1 (zxb r1)⟩
  | cell k=>exact lst (fun μ' H' m' v ⟨ad,_,hk⟩=>let ⟨ds,_,e,_⟩:=m'.mu_lt hk;⟨ds,e⟩) q
  | _=>exact q.elim
def zdl (ga : Env -> Mem -> Res D) : Env -> Mem -> Res Walk := fun ρ M => (ga ρ M).bind fun x M => match x with
    | .int n=>if -(2 ^ 62)≤n /\ n < 2 ^ 62 then .ok (fun _=>some ((List.range n.toNat).map fun (k:Nat)=>D.int (k:Int))) M else .bad
    | _=>.bad
theorem z17 (ha:DE fa X a ga) (hg:Gl X "range") (hm:X.mg "range"=none) (hs:starEach [a] X.env=[(false,eval a X.env)]):DI fa X tg (.Call (.Name "range" p) [a] [] pos) (zdl ga):=fun pins s σ H R I ⟨μ,ρ,M,hE,hM,h⟩=>by
  refine zvh hg hm (zdb ha zfm hs) hs pins s σ H R I ?_
  refine t1 hE hM h fun x M1 v H1 μ1 x1 hE1 hM1 r1 h1=>?_
  cases x with
  | int n =>
    dsimp only at h1
    split at h1
    · next c=>
      obtain rfl:v=.int n:=r1
      refine ⟨n,rfl,c.1,c.2,h1 _ H1 μ1 x1 hM1 ?_⟩
      have:=zxd (fa:=fa) (X:=X) (μ0:=μ1) (H0:=H1) 0 n.toNat
      simpa using this
    · exact h1.elim
  | _=>exact h1.elim
def zhp (t:Tgt) (gb:Env->Mem->Res Fl):Fl->D->Mem->Res Fl:=fun fl d M=>match fl with
  | .next ρ=>(ofO M (zde t d ρ)).bind fun ρ1 M=>gb ρ1 M
  | fl=>.ok fl M
def Fl.out:Fl->Bool
  | .next _=>false
  | _=>true
theorem zjl {t:Tgt}{gb:Env->Mem->Res Fl}{fl:Fl}{w:Walk}{P:Fl->Mem->Prop} (ho:fl.out=true):∀ (n i:Nat) (M:Mem),okE (zfg (zhp t gb) w n i fl M) P->P fl M
  | 0,_,_,h=>h.elim
  | n + 1, i, M, h => by
    unfold zfg at h
    cases e:w M with
    | none=>rw [e] at h;exact h.elim
    | some ds =>
      rw [e] at h
      dsimp only at h
      cases e2:ds[i]? with
      | none=>rw [e2] at h;exact h
      | some d' =>
        rw [e2] at h
        cases fl with
        | next ρ=>cases ho
        | ret d=>exact zjl ho n (i+1) M h
        | exc x ρ=>exact zjl ho n (i+1) M h
theorem ds_for {t:Tgt}{body:List PySem.Stmt}{gw:Env->Mem->Res Walk}{gb:Env->Mem->Res Fl} (hp:PassesOwn (model X.prog X.w) X.A X.env X.xe) (hc:X.calm=true) (hi:DI fa X tg a gw) (hg:PG X tg (gT fa X.K t)) (hb:DSs fa X body gb)
    (hs:∀ x,foldedSetIterable a X.env x=pure x):DS fa X (.For tg a body [] pos) (fun ρ M=>(gw ρ M).bind fun w M=>zes (zhp t gb) w (.next ρ) M):=
  zgr (ps_for hp hc hi hg hb hs) fun D' σ H ⟨μ,ρ,M,hE,hM,h⟩=>by
    obtain ⟨w,M1,e,q⟩:=zbe h
    refine ⟨μ,ρ,M,hE,hM,?_⟩
    rw [e]
    intro J H1 μ1 x1 hM1 wk
    have hE1:=hE.ext x1
    refine ⟨fun i m σ' H'=>∃ μ' ρ' M',Ext μ1 H1 μ' H' /\ zbv fa X.K μ' H' σ' ρ' /\ RelM fa X.K μ' H' M' /\ okE (zfg (zhp t gb) w m i (.next ρ') M') (FlP fa X μ H D'),
      ⟨_,μ1,ρ,M1,.refl,hE1,hM1,q⟩,?_⟩
    rintro i m σ2 H2 ⟨μ2,ρ2,M2,x2,hE2,hM2,q2⟩
    cases m with
    | zero=>exact q2.elim
    | succ m =>
      unfold zfg at q2
      cases e2:w M2 with
      | none=>rw [e2] at q2;exact q2.elim
      | some ds =>
        rw [e2] at q2
        dsimp only at q2
        obtain ⟨go,stop⟩:=wk μ2 H2 M2 ds x2.toExtW hM2 e2
        cases ed:ds[i]? with
        | none =>
          rw [ed] at q2
          exact .inl ⟨stop i (List.getElem?_eq_none_iff.mp ed),q2 σ2 H2 μ2 (x1.trans x2) hE2 hM2⟩
        | some d =>
          rw [ed] at q2
          obtain ⟨g1,g2⟩:=go i d ed
          refine .inr ⟨g1,fun σ' H'=>∃ μ' ρ' M',Ext μ1 H1 μ' H' /\ zbv fa X.K μ' H' σ' ρ' /\ RelM fa X.K μ' H' M' /\ okE (zfg (zhp t gb) w m (i+1) (.next ρ') M') (FlP fa X μ H D'),fun σ' H' z=>⟨m,by omega,z⟩,fun y H3 hy=>?_⟩
          obtain ⟨x3,hM3,r3⟩:=g2 y H3 hy
          have q2:okE (((ofO M2 (zde t d ρ2)).bind fun ρ1 M=>gb ρ1 M).bind (zfg (zhp t gb) w m (i+1))) (FlP fa X μ H D'):=q2
          obtain ⟨fl,M4,e4,q4⟩:=zbe q2
          obtain ⟨ρ4,M5,e5,e6⟩:=zfi e4
          cases eb:zde t d ρ2 with
          | none=>rw [eb] at e5;cases e5
          | some ρ5 =>
            rw [eb] at e5
            cases e5
            refine ⟨μ2,ρ2,_,d,ρ4,hE2.ext x3,hM3,r3,eb,fun σ5 hE5=>⟨μ2,ρ4,_,hE5,hM3,?_⟩⟩
            rw [e6]
            cases fl with
            | next ρ6=>exact fun σ6 H6 μ6 x6 hE6 hM6=>⟨μ6,ρ6,M4,(x2.trans x3).trans x6,hE6,hM6,q4⟩
            | ret d6=>exact (zjl rfl m (i+1) M4 q4).ext ((x1.trans x2).trans x3)
            | exc x6 ρ6=>exact (zjl rfl m (i+1) M4 q4).ext ((x1.trans x2).trans x3)
end
end LD
namespace LD
open PySem PySem.Spec PyProof.Rows L2
abbrev FF:Value->Shared->Prop:=fun _ _=>False
section
variable {prog:Program}{w:World}{A:Around}{s:Shared}
theorem zwk {elt:PySem.Expr}{gens:List Comprehension}{scope:Scope}{pos p:Pos}{k:Nat}{it acc:Value}{env:PySem.Env}{R:Result->Shared->Prop}{target:PySem.Expr}{body:Sem Unit}
    (heq:compTurn (.ListComp elt gens scope pos) k it acc env=(standAt p >>= fun _=>pyNext it >>= fun r=>match r with
      | none=>pure (.done .next)
      | some v=>letOwnedTupleGo target it v >>= fun _=>assign target env v >>= fun _=>body >>= fun _=>again (.compLoop (.ListComp elt gens scope pos) k it acc env)))
    (I:Nat->Shared->Prop)
    (turn:∀ n s,I n s->wpAny (model prog w) A (pyNext it) (fun r s₁=>match r with
      | none=>R (.ok .next) s₁
      | some v=>wpAny (model prog w) A (letOwnedTupleGo target it v) (fun _ s₂=>wpAny (model prog w) A (assign target env v) (fun _ s₃=>wpAny (model prog w) A body (fun _ s₄=>∃ m,m < n /\ I m s₄) FF s₃) FF s₂) FF s₁) FF s)
    (n:Nat) (h:I n s):codeAny (model prog w) A (.compLoop (.ListComp elt gens scope pos) k it acc env) R s:=by
  refine codeAny_loop rfl I (fun n s hI=>?_) n h
  show wpAny _ _ ((compTurn (.ListComp elt gens scope pos) k it acc env).onRaise (fun x=>do noteFrame x env;theTreesLotGoes x)) _ _ s
  refine wpAny_noted ?_
  rw [heq]
  refine wpAny_noRaise ?_
  refine wpAny_bind (wpAny_standAt (wpAny_bind (thn (turn n s hI) fun r s₁ h₁=>?_)))
  cases r with
  | none=>exact wpAny_pure h₁
  | some v =>
    refine wpAny_bind (thn h₁ fun _ s₂ h₂=>?_)
    exact wpAny_bind (thn h₂ fun _ s₃ h₃=>wpAny_bind (thn h₃ fun _ s₄ h₄=>wpAny_pure ⟨rfl,h₄⟩))
theorem zxh (elt target iter:PySem.Expr) (gs:List Comprehension) (scope:Scope) (pos:Pos) (it acc:Value) (env:PySem.Env) :
    compTurn (.ListComp elt [⟨target,iter,[],0⟩] scope pos) 0 it acc env=(standAt iter.pos >>= fun _=>pyNext it >>= fun r=>match r with
      | none=>pure (.done .next)
      | some v=>letOwnedTupleGo target it v >>= fun _=>assign target env v >>= fun _=>(eval elt env >>= fun x=>call (.builtin "list.append") [acc,x] >>= fun _=>pure ()) >>= fun _=>again (.compLoop (.ListComp elt [⟨target,iter,[],0⟩] scope pos) 0 it acc env)):=by rfl
theorem turn_if (elt target iter c:PySem.Expr) (scope:Scope) (pos:Pos) (it acc:Value) (env:PySem.Env) :
    compTurn (.ListComp elt [⟨target,iter,[c],0⟩] scope pos) 0 it acc env=(standAt iter.pos >>= fun _=>pyNext it >>= fun r=>match r with
      | none=>pure (.done .next)
      | some v=>letOwnedTupleGo target it v >>= fun _=>assign target env v >>= fun _=>(isTrue c env (eval c env) >>= fun ok=>if ok=true then (eval elt env >>= fun x=>call (.builtin "list.append") [acc,x] >>= fun _=>pure ()) else pure ()) >>= fun _=>again (.compLoop (.ListComp elt [⟨target,iter,[c],0⟩] scope pos) 0 it acc env)):=by
  rw [compTurn_list]
  refine congrArg _ (funext fun _=>congrArg _ (funext fun r=>?_))
  cases r with
  | none=>rfl
  | some v =>
    simp only [List.forIn_cons,List.forIn_nil,if_true,bind_assoc,pure_bind]
    refine congrArg _ (funext fun _=>congrArg _ (funext fun _=>congrArg _ (funext fun ok=>?_)))
    cases ok<;>simp
theorem zxf (elt target iter t2 i2:PySem.Expr) (scope:Scope) (pos:Pos) (it acc:Value) (env:PySem.Env) :
    compTurn (.ListComp elt [⟨target,iter,[],0⟩,⟨t2,i2,[],0⟩] scope pos) 0 it acc env=(standAt iter.pos >>= fun _=>pyNext it >>= fun r=>match r with
      | none=>pure (.done .next)
      | some v=>letOwnedTupleGo target it v >>= fun _=>assign target env v >>= fun _=>(eval i2 env >>= fun x=>standAt i2.pos >>= fun _=>foldedSetIterable i2 env x >>= fun x=>holding [x] (pyIter x) >>= fun j=>runOwn (.compStart (.ListComp elt [⟨target,iter,[],0⟩,⟨t2,i2,[],0⟩] scope pos) 1 j acc env) env >>= fun _=>pure ()) >>= fun _=>again (.compLoop (.ListComp elt [⟨target,iter,[],0⟩,⟨t2,i2,[],0⟩] scope pos) 0 it acc env)):=by
  unfold compTurn
  simp only [List.getElem?_cons_zero,bne_self_eq_false,Bool.false_eq_true,if_false]
  refine bind_congr fun _=>bind_congr fun r=>?_
  cases r with
  | none=>rfl
  | some v=>simp
theorem zxg (elt target iter t2 i2:PySem.Expr) (scope:Scope) (pos:Pos) (it acc:Value) (env:PySem.Env) :
    compTurn (.ListComp elt [⟨target,iter,[],0⟩,⟨t2,i2,[],0⟩] scope pos) 1 it acc env=(standAt i2.pos >>= fun _=>pyNext it >>= fun r=>match r with
      | none=>pure (.done .next)
      | some v=>letOwnedTupleGo t2 it v >>= fun _=>assign t2 env v >>= fun _=>(eval elt env >>= fun x=>call (.builtin "list.append") [acc,x] >>= fun _=>pure ()) >>= fun _=>again (.compLoop (.ListComp elt [⟨target,iter,[],0⟩,⟨t2,i2,[],0⟩] scope pos) 1 it acc env)):=by
  rfl
theorem zjr (env:PySem.Env):∀ (ns:List (Str×NameKind)) (cs:List (Str×Addr)),(∀ y∈ns,y.2=.free->∃ c,env.cells.lookup y.1=some c)->(∀ x c,cs.lookup x=some c->env.cells.lookup x=some c)->
    ∃ cl, (forIn ns cs fun (y : Str × NameKind) (r : List (Str × Addr)) => if (y.2 == NameKind.free) = true then cellOf env y.1 >>= fun a => pure (ForInStep.yield ((y.1, a) :: r)) else pure (ForInStep.yield r) : Sem _) = pure cl /\
      (∀ x c,cl.lookup x=some c->env.cells.lookup x=some c) /\ (∀ x c,cs.lookup x=some c->∃ c',cl.lookup x=some c') /\ ∀ y∈ns,y.2=.free->∃ c,cl.lookup y.1=some c
  | [],cs,_,h2=>⟨cs,by simp,h2,fun x c e=>⟨c,e⟩,fun y hy=>nomatch hy⟩
  | (n, k) :: ns, cs, h1, h2 => by
    by_cases hk:k=.free
    · subst hk
      obtain ⟨a,ha⟩:=h1 (n,.free) List.mem_cons_self rfl
      have lk:∀ x c,((n,a)::cs).lookup x=some c->env.cells.lookup x=some c:=fun x c e=>by
        rw [List.lookup_cons] at e
        split at e
        · next q=>cases e;rw [eq_of_beq q];exact ha
        · exact h2 x c e
      obtain ⟨cl,e,p1,p2,p3⟩:=zjr env ns ((n,a)::cs) (fun y hy=>h1 y (List.mem_cons_of_mem _ hy)) lk
      refine ⟨cl,?_,p1,fun x c q=>?_,fun y hy hf=>?_⟩
      · rw [List.forIn_cons]
        have ec:cellOf env n=pure a:=by unfold cellOf;rw [ha]
        simp only [beq_self_eq_true,if_true,ec]
        exact e
      · by_cases hx:x=n
        · exact p2 x a (by rw [List.lookup_cons,hx];simp)
        · exact p2 x c (by rw [List.lookup_cons,beq_eq_false_iff_ne.mpr hx];exact q)
      · rcases List.mem_cons.mp hy with z | z
        · subst z;exact p2 n a (by simp [List.lookup_cons])
        · exact p3 y z hf
    · obtain ⟨cl,e,p1,p2,p3⟩:=zjr env ns cs (fun y hy=>h1 y (List.mem_cons_of_mem _ hy)) h2
      refine ⟨cl,?_,p1,p2,fun y hy hf=>?_⟩
      · rw [List.forIn_cons]
        have eb:(k==NameKind.free)=false:=by simpa using hk
        simp only [eb,Bool.false_eq_true,if_false]
        exact e
      · rcases List.mem_cons.mp hy with z | z
        · subst z;exact absurd hf hk
        · exact p3 y z hf
theorem zua {scope:Scope}{env:PySem.Env} (h:∀ y∈scope.names,y.2=.free->∃ c,env.cells.lookup y.1=some c) :
    ∃ cl,closureFor scope env=pure cl /\ (∀ x c,cl.lookup x=some c->env.cells.lookup x=some c) /\ ∀ y∈scope.names,y.2=.free->∃ c,cl.lookup y.1=some c:=by
  obtain ⟨cl,e,p1,_,p3⟩:=zjr env scope.names [] h (fun x c q=>nomatch q)
  exact ⟨cl,by unfold closureFor;simp only [bind_pure];exact e,p1,p3⟩
end
end LD
namespace LD
open PySem PySem.Spec PyProof.Rows L2
def zbz (X:Cx) (own bn:List Str) (scope:Scope) (cl:List (Str×Addr)) (C:Addr) (fp:List Addr) (s:Shared) (H:Hp):Cx:=
  {X with N:=own++bn,s₀:=s,H₀:=H,env:=compEnvC scope cl C X.env,outer:=X.stack,ex:=fp,fn:=fun _=>false,pn:=[],xe:=FF}
theorem mem_of_lookup {β:Type}:∀ {l:List (Str×β)}{x:Str}{k:β},l.lookup x=some k->(x,k)∈l
  | [],_,_,h=>by cases h
  | (n, b) :: r, x, k, h => by
    rw [List.lookup_cons] at h
    split at h
    · next q=>cases h;rw [eq_of_beq q];exact List.mem_cons_self
    · exact List.mem_cons_of_mem _ (mem_of_lookup h)
theorem zgp {env:PySem.Env}:∀ {names:List (Str×NameKind)}{x:Str}{k:NameKind},
    (names.map fun (n,k)=>if (k==NameKind.free&&env.scope.kind==.function&&env.kindOf n==some .cell) then (n,NameKind.cell) else (n,k)).lookup x=some k->
    ∃ k0,(x,k0)∈names /\ names.lookup x=some k0 /\ (k=k0 \/ (k0=.free /\ k=.cell))
  | [],_,_,h=>by cases h
  | (n, k0) :: r, x, k, h => by
    have ih:=@zgp env r x k
    have h:List.lookup x ((if (k0==NameKind.free&&env.scope.kind==.function&&env.kindOf n==some .cell)=true then (n,NameKind.cell) else (n,k0))::_)=some k:=h
    cases hx:x==n with
    | true =>
      have e:=eq_of_beq hx
      subst e
      refine ⟨k0,List.mem_cons_self,by simp [List.lookup_cons],?_⟩
      split at h
      · next c=>
        simp [List.lookup_cons] at h
        simp at c
        exact .inr ⟨c.1.1,h.symm⟩
      · simp [List.lookup_cons] at h
        exact .inl h.symm
    | false =>
      have h':List.lookup x (r.map fun (n,k)=>if (k==NameKind.free&&env.scope.kind==.function&&env.kindOf n==some .cell) then (n,NameKind.cell) else (n,k))=some k:=by
        split at h<;>simpa [List.lookup_cons,hx] using h
      obtain ⟨k1,h1,h2,h3⟩:=ih h'
      exact ⟨k1,List.mem_cons_of_mem _ h1,by simp [List.lookup_cons,hx];exact h2,h3⟩
theorem zmb {α β:Type}{R:α->β->Prop}:∀ {l:List α}{r:List β}{i:Nat}{x:α},Paired R l r->l[i]?=some x->∃ y,r[i]?=some y /\ R x y
  | _,_,_,_,.nil,e=>by simp at e
  | _,_,0,_,.cons p _,e=>by simp at e;subst e;exact ⟨_,rfl,p⟩
  | _, _, i + 1, x, .cons _ t, e => by
    obtain ⟨y,h1,h2⟩:=zmb (i:=i) (x:=x) t (by simpa using e)
    exact ⟨y,by simpa using h1,h2⟩
structure zer (X:Cx) (own bn:List Str) (scope:Scope):Prop where
  kind:scope.kind=.function
  nocell:∀ y∈scope.names,y.2≠.cell
  loc:∀ y∈scope.names,y.2=.local->scope.names.lookup y.1=some .local
  free:∀ y∈scope.names,y.2=.free->X.env.kindOf y.1=some .cell \/ X.env.kindOf y.1=some .free
  dis:Paired (fun b x=>(b=x /\ scope.names.lookup x≠some .local) \/ scope.names.lookup b=none) bn X.N
section
variable {X:Cx}{pins:List (Addr×Obj)}{σ:L2.St}{H:Hp}{s:Shared}{fp:List Addr}{scope:Scope}{cl:List (Str×Addr)}{own bn:List Str}
structure Cl (X:Cx) (scope:Scope) (cl:List (Str×Addr)):Prop where
  sub:∀ x c,cl.lookup x=some c->X.env.cells.lookup x=some c
  has:∀ y∈scope.names,y.2=.free->∃ c,cl.lookup y.1=some c
theorem z2f (I:Inv X pins σ H s) (S:zer X own bn scope) (hcl:Cl X scope cl) (hfp:∀ b∈fp,zf9 X pins H b) (hfo:∀ b∈fp,∃ o,s.heap.get? b=some o) :
    (zbz X own bn scope cl s.heap.objs.size fp s H).Ok where
  mod:=I.ok.mod
  kind:=S.kind
  glob:=I.ok.glob
  blt:=I.ok.blt
  above:=Nat.le_refl _
  inj:=fun x y c h1 h2=>I.ok.inj x y c (hcl.sub x c h1) (hcl.sub y c h2)
  has:=fun x h=>by
    have key:∀ k,(relabel scope X.env).names.lookup x=some k->(k=.cell \/ k=.free)->∃ c,cl.lookup x=some c:=fun k hk hh=>by
      obtain ⟨k0,h1,h2,h3⟩:=zgp hk
      have hf:k0=.free:=by
        rcases h3 with e | ⟨e,_⟩
        · rcases hh with z | z
          · exact absurd (e.symm.trans z) (S.nocell _ h1)
          · exact e.symm.trans z
        · exact e
      exact hcl.has _ h1 hf
    rcases h with h | h
    · exact key _ h (.inl rfl)
    · exact key _ h (.inr rfl)
  cab:=fun x c h=>nomatch h
  hd:=I.ok.hd
  frames:=I.ok.frames
  stk:=.inl rfl
  exf := fun b hb => ⟨fun e => by
      obtain ⟨o,ho⟩:=hfo b hb
      exact absurd (Heap.lt_size ho) (by rw [e];exact Nat.lt_irrefl _),fun x c e=>(hfp b hb).2.2.2.2.1 x c (hcl.sub x c e)⟩
  bs:=fun b o e=>I.bs b o e
  bsz:=Nat.le_trans I.ok.bsz I.sz
  noex:=fun b o e hb=>by
    rcases (hfp b hb).2.2.2.1 with z | z
    · exact I.ok.noex b o e z
    · exact absurd (Nat.lt_of_lt_of_le (Heap.lt_size e) (Nat.le_trans I.ok.bsz z)) (Nat.lt_irrefl _)
  exfs:=fun b hb hx=>by
    rcases List.mem_cons.mp (I.stkSub b hx) with e | e
    · exact (hfp b hb).2.1 e
    · exact (hfp b hb).2.2.1 e
  funs:=I.stack
  frf:=fun b hb=>I.stkFree b hb
theorem zy1 (I:Inv X pins σ H s) (S:zer X own bn scope) (hcl:Cl X scope cl) (hfp:∀ b∈fp,zf9 X pins H b) (hfo:∀ b∈fp,∃ o,s.heap.get? b=some o) {h':Heap}{t':Nat}{m:Str->Option Value}
    (hn:h'.Ns s.heap.objs.size m) (hk:∀ b o,s.heap.get? b=some o->h'.get? b=some o) :
    Inv (zbz X own bn scope cl s.heap.objs.size fp s H) [] (List.replicate own.length none++σ) H {s with heap:=h',toks:=t'} where
  ok:=z2f I S hcl hfp hfo
  os:=rfl
  bare:=I.bare
  base:=Un.kept hk
  loc:=by
    refine ⟨m,hn,fun i x v e1 e2 hv=>?_⟩
    have e1:(own++bn)[i]?=some x:=e1
    have hi:own.length≤i:=by
      by_cases q:i < own.length
      · rw [List.getElem?_append_left (by simpa using q),List.getElem?_replicate] at e2
        simp [q] at e2
      · omega
    rw [List.getElem?_append_right hi] at e1
    rw [List.getElem?_append_right (by simpa using hi)] at e2
    simp only [List.length_replicate] at e2
    have hx:X.N[i - own.length]?=some x /\ scope.names.lookup x≠some .local:=by
      rcases zmb S.dis e1 with ⟨y,h1,⟨h2,h3⟩ | h2⟩
      · subst h2;exact ⟨h1,h3⟩
      · exfalso
        have no:∀ k,(relabel scope X.env).names.lookup x≠some k:=fun k hk=>by
          obtain ⟨k0,_,h3,_⟩:=zgp hk
          rw [h2] at h3;cases h3
        rcases hv with z | z | z
        · exact no _ z
        · exact no _ z
        · exact no _ z
    have key:∀ k,(relabel scope X.env).names.lookup x=some k->(k=.local \/ k=.cell \/ k=.free)->∃ c,(k=.cell \/ k=.free) /\ cl.lookup x=some c /\ (X.env.kindOf x=some .cell \/ X.env.kindOf x=some .free):=fun k hk2 hh=>by
      obtain ⟨k0,h1,h2,h3⟩:=zgp hk2
      have nl:k0≠.local:=fun e=>hx.2 (by rw [h2,e])
      have hf:k0=.free:=by
        rcases h3 with e | ⟨e,_⟩
        · rcases hh with z | z | z
          · exact absurd (e.symm.trans z) nl
          · exact absurd (e.symm.trans z) (S.nocell _ h1)
          · exact e.symm.trans z
        · exact e
      obtain ⟨c,hc⟩:=hcl.has _ h1 hf
      refine ⟨c,?_,hc,S.free _ h1 hf⟩
      rcases hh with z | z | z
      · rcases h3 with e | ⟨_,e⟩
        · rw [hf] at e;rw [e] at z;cases z
        · rw [e] at z;cases z
      · exact .inl z
      · exact .inr z
    have fin:∀ k,(relabel scope X.env).names.lookup x=some k->(k=.local \/ k=.cell \/ k=.free)->∃ u,RelV v u /\ Look (compEnvC scope cl s.heap.objs.size X.env) h' m x u:=fun k hk2 hh=>by
      obtain ⟨c,h1,h2,h3⟩:=key k hk2 hh
      obtain ⟨m0,_,hl⟩:=I.loc
      obtain ⟨u,r,l⟩:=hl _ x v hx.1 e2 (.inr h3)
      refine ⟨u,r,.inr ⟨?_,c,h2,?_⟩⟩
      · rcases h1 with z | z
        · subst z;exact .inl hk2
        · subst z;exact .inr hk2
      · rcases l with ⟨z,_⟩ | ⟨_,c',hc',hcell⟩
        · rcases h3 with q | q
          · rw [z] at q;cases q
          · rw [z] at q;cases q
        · rw [hcl.sub x c h2] at hc';cases hc'
          obtain ⟨o,ho,hd⟩:=hcell
          exact ⟨o,hk _ _ ho,hd⟩
    rcases hv with z | z | z
    · exact fin _ z (.inl rfl)
    · exact fin _ z (.inr (.inl rfl))
    · exact fin _ z (.inr (.inr rfl))
  cell:=fun x c e=>by
    obtain ⟨v,o,ho,hd⟩:=I.cell x c (hcl.sub x c e)
    exact ⟨v,o,hk _ _ ho,hd⟩
  free:=I.hok.fresh (Nat.le_refl _)
  freeC:=fun x c e=>I.freeC x c (hcl.sub x c e)
  pin:=fun p hp=>nomatch hp
  hok:=I.hok.kept hk
  len:=by
    show (List.replicate own.length none++σ).length=(own++bn).length
    have:=Paired.length S.dis
    simp [I.len,this]
theorem comp_back (I:Inv X pins σ H s) (hfp:∀ b∈fp,zf9 X pins H b) {pins':List (Addr×Obj)}{σ':L2.St}{H':Hp}{s':Shared}{C:Addr} (I':Inv (zbz X own bn scope cl C fp s H) pins' σ' H' s'):Inv X pins σ H' s':=
  I.call' (ch:=fp) I'.os I'.base I'.hok I'.bare fun b hb=>⟨(hfp b hb).2.2.2.1,(hfp b hb).2.1,(hfp b hb).2.2.2.2.1,(hfp b hb).2.2.2.2.2⟩
theorem zwl (I:Inv X pins σ H s) {σ':L2.St}{H':Hp}{s':Shared} (hf:H' s.heap.objs.size=none) (I':Inv X pins σ' H' s') {h'':Heap} (hs:Heap.SameBut s.heap.objs.size s'.heap h''):Inv X pins σ' H' {s' with heap:=h''}:=
  I'.turned (t':=s'.toks) (fun b o hb e=>(hs.2 b hb).trans e) hf (Nat.ne_of_gt I.lt) (.inr I.sz) (fun x c e z=>by
    obtain ⟨v,q⟩:=I.cell x c e
    exact absurd q.lt (by rw [z];exact Nat.lt_irrefl _)) fun p hp z=>absurd (Heap.lt_size (I.pin p hp).1) (by rw [z];exact Nat.lt_irrefl _)
end
end LD
namespace LD
open PySem PySem.Spec PyProof.Rows L2
structure zf1 (a:Addr) (μ:Mu) (H:Hp) (μ':Mu) (H':Hp):Prop extends ExtW μ H μ' H' where
  pr:μ'.priv=μ.priv
  pk:∀ b∈μ.priv,b≠a->H' b=H b
theorem zf1.refl {a:Addr}{μ:Mu}{H:Hp}:zf1 a μ H μ H:=⟨.refl,rfl,fun _ _ _=>rfl⟩
theorem zf1.trans {a:Addr}{μ μ1 μ2:Mu}{H H1 H2:Hp} (x:zf1 a μ H μ1 H1) (y:zf1 a μ1 H1 μ2 H2):zf1 a μ H μ2 H2:=
  ⟨x.toExtW.trans y.toExtW,y.pr.trans x.pr,fun b hb n=>(y.pk b (by rw [x.pr];exact hb) n).trans (x.pk b hb n)⟩
theorem Ext.toD {a:Addr}{μ μ':Mu}{H H':Hp} (x:Ext μ H μ' H'):zf1 a μ H μ' H':=⟨x.toExtW,x.pr,fun b hb _=>x.pk b hb⟩
def slots:Tgt->List Nat
  | .one i=>[i]
  | .tup l=>l
def Clear (W:List Nat) (ρ:Env):Prop:=∀ i∈W,∀ d,ρ[i]?≠some (some d)
section
variable {fa:Fa}{K:PySem.W.Frag}{μ μ':Mu}{H H':Hp}{σ:L2.St}{ρ ρ1:Env}{M:Mem}{a:Addr}
theorem zbv.weak (h:zbv fa K μ H σ ρ1) (hl:ρ1.length=ρ.length) (w:∀ (i:Nat) d,ρ[i]?=some (some d)->ρ1[i]?=some (some d)):zbv fa K μ H σ ρ:=
  ⟨h.len.trans hl,fun i d e=>h.at' i d (w i d e)⟩
theorem zlw:∀ {l:List Nat}{ds:List D}{ρ ρ1:Env},zfw l ds ρ=some ρ1->ρ1.length=ρ.length /\ ∀ i,i∉l->ρ1[i]?=ρ[i]?
  | [],[],ρ,ρ1,h=>by cases h;exact ⟨rfl,fun _ _=>rfl⟩
  | _::_,[],_,_,h=>by cases h
  | [],_::_,_,_,h=>by cases h
  | j :: l, d :: ds, ρ, ρ1, h => by
    obtain ⟨h1,h2⟩:=zlw (l:=l) (ds:=ds) h
    refine ⟨by simpa using h1,fun i hi=>?_⟩
    rw [h2 i (fun z=>hi (List.mem_cons_of_mem _ z)),List.getElem?_set_ne (fun z=>hi (by rw [z];exact List.mem_cons_self))]
theorem zol {t:Tgt}{d:D} (h:zde t d ρ=some ρ1):ρ1.length=ρ.length /\ ∀ i,i∉slots t->ρ1[i]?=ρ[i]?:=by
  cases t with
  | one j =>
    have h:some (ρ.set j (some d))=some ρ1:=h
    cases h
    exact ⟨by simp,fun i hi=>List.getElem?_set_ne (fun z=>hi (by rw [z];exact List.mem_cons_self))⟩
  | tup l =>
    cases d with
    | tup ds=>exact zlw h
    | _=>cases h
theorem zbv.unbind {t:Tgt}{d:D} (h:zde t d ρ=some ρ1) (c:Clear (slots t) ρ) (r:zbv fa K μ H σ ρ1):zbv fa K μ H σ ρ:=by
  obtain ⟨h1,h2⟩:=zol h
  refine r.weak h1 fun i d e=>?_
  by_cases hi:i∈slots t
  · exact absurd e (c i hi d)
  · rw [h2 i hi];exact e
theorem RelM.writeP (h:RelM fa K μ H M) {ws vs:List V} (e:a∈μ.priv) (hH:H a=some (.lst vs)):RelM fa K μ (upd H a (.lst ws)) M:=by
  have x:ExtW μ H μ (upd H a (.lst ws)):=ExtW.write hH (.inr e)
  refine ⟨fun k ds q=>?_,h.out,h.inj,fun b hb=>⟨?_,(h.pv b hb).2⟩⟩
  · obtain ⟨b,us,h1,h2,h3⟩:=h.at' k ds q
    have nb:b≠a:=fun z=>(h.pv a e).2 k (by rw [h1,z])
    exact ⟨b,us,h1,by rw [za1 nb];exact h2,h3.extW x⟩
  · by_cases hb':b=a
    · subst hb';exact ⟨ws,zc8⟩
    · obtain ⟨us,q⟩:=(h.pv b hb).1
      exact ⟨us,by rw [za1 hb'];exact q⟩
theorem zf1.writeP {ws vs:List V} (e:a∈μ.priv) (hH:H a=some (.lst vs)):zf1 a μ H μ (upd H a (.lst ws)):=
  ⟨ExtW.write hH (.inr e),rfl,fun b _ n=>by rw [za1 n]⟩
end
def WB (fa:Fa) (K:PySem.W.Frag) (a:Addr) (μ:Mu) (H:Hp) (ρ:Env) (Q:L2.St->Hp->Prop) (acc:List D) (M':Mem):Prop:=
  ∀ σ' H' μ' vs',zf1 a μ H μ' H'->zbv fa K μ' H' σ' ρ->RelM fa K μ' H' M'->H' a=some (.lst vs')->za3 fa K μ' H' acc vs'->Q σ' H'
theorem WB.ext {fa:Fa}{K:PySem.W.Frag}{a:Addr}{μ μ1:Mu}{H H1:Hp}{ρ:Env}{Q:L2.St->Hp->Prop}{acc:List D}{M':Mem} (h:WB fa K a μ H ρ Q acc M') (x:zf1 a μ H μ1 H1):WB fa K a μ1 H1 ρ Q acc M':=
  fun σ' H' μ' vs' y e m h1 h2=>h σ' H' μ' vs' (x.trans y) e m h1 h2
def DB (fa:Fa) (X:Cx) (a:Addr) (W:List Nat) (body:Sem Unit) (g:Env->List D->Mem->Res (List D)):Prop:=
  ∀ (pins : List (Addr × Obj)) (s : Shared) (σ : L2.St) (H : Hp) (Q : L2.St -> Hp -> Prop) (μ : Mu) (ρ : Env) (M : Mem) (acc : List D) (vs : List V), Inv X pins σ H s -> zbv fa X.K μ H σ ρ -> RelM fa X.K μ H M -> Clear W ρ -> a ∈ μ.priv -> H a = some (.lst vs) -> za3 fa X.K μ H acc vs ->
    okE (g ρ acc M) (WB fa X.K a μ H ρ Q)->wpAny (model X.prog X.w) X.A body (fun _ s'=>∃ σ' H',Inv X pins σ' H' s' /\ Q σ' H') X.xe s
def zb7 (ge:Env->Mem->Res D):Env->List D->Mem->Res (List D):=fun ρ acc M=>(ge ρ M).bind fun x M=>if acc.length < sz then .ok (acc++[x]) M else .bad
def gIf (gc:Env->Mem->Res Bool) (g:Env->List D->Mem->Res (List D)):Env->List D->Mem->Res (List D):=fun ρ acc M=>(gc ρ M).bind fun k M=>if k then g ρ acc M else .ok acc M
def zeg (t:Tgt) (g:Env->List D->Mem->Res (List D)) (ρ:Env):List D->D->Mem->Res (List D):=fun acc d M=>(ofO M (zde t d ρ)).bind fun ρ1 M=>g ρ1 acc M
def zli (t:Tgt) (gw:Env->Mem->Res Walk) (g:Env->List D->Mem->Res (List D)):Env->List D->Mem->Res (List D):=fun ρ acc M=>(gw ρ M).bind fun w M=>zes (zeg t g ρ) w acc M
section
variable {fa:Fa}{X:Cx}{a:Addr}
theorem zms {elt:PySem.Expr}{ge:Env->Mem->Res D} (he:DE fa X elt ge):DB fa X a [] (eval elt X.env >>= fun x=>call (.builtin "list.append") [.ref a,x] >>= fun _=>pure ()) (zb7 ge):=by
  intro pins s σ H Q μ ρ M acc vs I hE hM hc ha hH hr h
  obtain ⟨x,M1,e,q⟩:=zbe h
  split at q
  · next hz=>
    have q:WB fa X.K a μ H ρ Q (acc++[x]) M1:=q
    refine wpAny_bind (thn (he pins s σ H (fun v H1=>∃ μ1,Ext μ H μ1 H1 /\ RelM fa X.K μ1 H1 M1 /\ Rep fa X.K μ1 H1 x v) I ⟨μ,ρ,M,hE,hM,?_⟩) fun u s1 ⟨v,H1,I1,rv,μ1,x1,m1,r1⟩=>?_)
    · rw [e];exact fun v H1 μ1 x1 m1 r1=>⟨μ1,x1,m1,r1⟩
    have hH1:H1 a=some (.lst vs):=by rw [x1.pk a ha];exact hH
    have ha1:a∈μ1.priv:=by rw [x1.pr];exact ha
    have hl:vs.length < sizeLine:=by rw [hr.length,<- ze3];exact hz
    refine wpAny_bind (thn (zob pins s1 σ H1 (.ref a) [v] (.ref a) [u] (fun _ H2=>H2=upd H1 a (.lst (vs++[v]))) I1 rfl (.cons rv .nil) ⟨a,vs,v,rfl,rfl,hH1,hl,rfl⟩) fun _ s2 ⟨_,H2,I2,_,e2⟩=>wpAny_pure ⟨σ,H2,I2,?_⟩)
    subst e2
    have xd:zf1 a μ1 H1 μ1 (upd H1 a (.lst (vs++[v]))):=zf1.writeP ha1 hH1
    exact q σ _ μ1 (vs++[v]) (x1.toD.trans xd) ((hE.ext x1).extW xd.toExtW) (m1.writeP ha1 hH1) zc8 (((hr.ext x1).append (.one r1)).extW xd.toExtW)
  · exact q.elim
theorem db_if {c:PySem.Expr}{gc:Env->Mem->Res Bool}{W:List Nat}{body:Sem Unit}{g:Env->List D->Mem->Res (List D)} (hc:DT fa X c gc) (hb:DB fa X a W body g) :
    DB fa X a W (isTrue c X.env (eval c X.env) >>= fun ok=>if ok=true then body else pure ()) (gIf gc g):=by
  intro pins s σ H Q μ ρ M acc vs I hE hM hw ha hH hr h
  obtain ⟨k,M1,e,q⟩:=zbe h
  refine wpAny_bind (thn (hc pins s σ H (fun b H1=>b=k /\ ∃ μ1,Ext μ H μ1 H1 /\ RelM fa X.K μ1 H1 M1) I ⟨μ,ρ,M,hE,hM,?_⟩) fun b s1 ⟨H1,I1,eb,μ1,x1,m1⟩=>?_)
  · rw [e];exact fun H1 μ1 x1 m1=>⟨rfl,μ1,x1,m1⟩
  subst eb
  have hH1:H1 a=some (.lst vs):=by rw [x1.pk a ha];exact hH
  have ha1:a∈μ1.priv:=by rw [x1.pr];exact ha
  cases b with
  | true =>
    rw [if_pos rfl]
    exact hb pins s1 σ H1 Q μ1 ρ M1 acc vs I1 (hE.ext x1) m1 hw ha1 hH1 (hr.ext x1) (zbu q fun _ _ w=>w.ext x1.toD)
  | false =>
    rw [if_neg Bool.false_ne_true]
    have q:WB fa X.K a μ H ρ Q acc M1:=q
    exact wpAny_pure ⟨σ,H1,I1,q σ H1 μ1 vs x1.toD (hE.ext x1) m1 hH1 (hr.ext x1)⟩
theorem zss {elt:PySem.Expr}{gens:List Comprehension}{scope:Scope}{pos p:Pos}{k:Nat}{tg:PySem.Expr}{body:Sem Unit}{t:Tgt}{W:List Nat}{g:Env->List D->Mem->Res (List D)}{it:Addr}{fp:List Addr}{tn:Nat->Heap->Prop}{J:It}
    (heq:compTurn (.ListComp elt gens scope pos) k (.ref it) (.ref a) X.env=(standAt p >>= fun _=>pyNext (.ref it) >>= fun r=>match r with
      | none=>pure (.done .next)
      | some v=>letOwnedTupleGo tg (.ref it) v >>= fun _=>assign tg X.env v >>= fun _=>body >>= fun _=>again (.compLoop (.ListComp elt gens scope pos) k (.ref it) (.ref a) X.env)))
    (hx:X.xe=FF) (hcalm:X.calm=true) (T:Turn X.prog X.w X.K tg J fp it tn) (hg:PG X tg (gT fa X.K t)) (hb:DB fa X a W body g) (hW:∀ i∈W,i∉slots t)
    {pins:List (Addr×Obj)}{s:Shared}{σ:L2.St}{H:Hp}{Q:L2.St->Hp->Prop}{μ:Mu}{ρ:Env}{M:Mem}{acc:List D}{vs:List V}{w:Walk} (I:Inv X pins σ H s) (st:tn 0 s.heap) (hf:∀ b∈fp,zf9 X pins H b) (hE:zbv fa X.K μ H σ ρ) (hM:RelM fa X.K μ H M)
    (hcl:Clear (slots t++W) ρ) (ha:a∈μ.priv) (hH:H a=some (.lst vs)) (hr:za3 fa X.K μ H acc vs) (wk:zey fa X.K μ H w J) (q:okE (zes (zeg t g ρ) w acc M) (WB fa X.K a μ H ρ Q)) :
    codeAny (model X.prog X.w) X.A (.compLoop (.ListComp elt gens scope pos) k (.ref it) (.ref a) X.env) (fun r s'=>r=.ok .next /\ ∃ σ' H',Inv X pins σ' H' s' /\ Q σ' H') s:=by
  have stat:∀ {H':Hp},(∀ b∈fp,H' b=none)->∀ b∈fp,zf9 X pins H' b:=fun hn b hb=>⟨hn b hb,(hf b hb).2⟩
  have clt:Clear (slots t) ρ:=fun i hi=>hcl i (List.mem_append_left _ hi)
  have clW:∀ d ρ1,zde t d ρ=some ρ1->Clear W ρ1:=fun d ρ1 e i hi d' z=>by
    rw [(zol e).2 i (hW i hi)] at z
    exact hcl i (List.mem_append_right _ hi) d' z
  let P:Nat->Nat->Shared->Prop:=fun m i s'=>∃ σ' H' μ' M' acc' vs',Inv X pins σ' H' s' /\ tn i s'.heap /\ (∀ b∈fp,H' b=none) /\ zf1 a μ H μ' H' /\ zbv fa X.K μ' H' σ' ρ /\ RelM fa X.K μ' H' M' /\ H' a=some (.lst vs') /\ za3 fa X.K μ' H' acc' vs' /\
    okE (zfg (zeg t g ρ) w m i acc' M') (WB fa X.K a μ H ρ Q)
  have P0:∃ m,P m 0 s:=⟨_,σ,H,μ,M,acc,vs,I,st,fun b hb=>(hf b hb).1,.refl,hE,hM,hH,hr,q⟩
  obtain ⟨m0,P0⟩:=P0
  have hturn:∀ (n:Nat) (i:Nat) (s3:Shared),P n i s3->wpAny (model X.prog X.w) X.A (pyNext (.ref it)) (fun r s₁=>match r with
      | none=>(∃ σ' H',Inv X pins σ' H' s₁ /\ Q σ' H')
      | some v=>wpAny (model X.prog X.w) X.A (letOwnedTupleGo tg (.ref it) v) (fun _ s₂=>wpAny (model X.prog X.w) X.A (assign tg X.env v) (fun _ s₃=>wpAny (model X.prog X.w) X.A body (fun _ s₄=>∃ m,m < n /\ P m (i+1) s₄) FF s₃) FF s₂) FF s₁) FF s3:=by
    rintro n i s3 ⟨σ3,H3,μ3,M3,acc3,vs3,I3,st3,fr3,x3,hE3,hM3,hH3,hr3,q3⟩
    have ha3:a∈μ3.priv:=by rw [x3.pr];exact ha
    have one:∀ (d:D) (rest:List D->Mem->Res (List D)) (next:List D->Mem->Prop),J.go i H3->(∀ x H',J.yld i H3 x H'->Ext μ3 H3 μ3 H' /\ RelM fa X.K μ3 H' M3 /\ Rep fa X.K μ3 H' d x)->okE ((zeg t g ρ acc3 d M3).bind rest) (WB fa X.K a μ H ρ Q)->
        (∀ σ' H' μ' M' acc' vs' s',Inv X pins σ' H' s'->tn (i+1) s'.heap->(∀ b∈fp,H' b=none)->zf1 a μ H μ' H'->zbv fa X.K μ' H' σ' ρ->RelM fa X.K μ' H' M'->H' a=some (.lst vs')->za3 fa X.K μ' H' acc' vs'->okE (rest acc' M') (WB fa X.K a μ H ρ Q)->∃ m,m < n /\ P m (i+1) s')->
        wpAny (model X.prog X.w) X.A (pyNext (.ref it)) (fun r s₁=>match r with
          | none=>(∃ σ' H',Inv X pins σ' H' s₁ /\ Q σ' H')
          | some v=>wpAny (model X.prog X.w) X.A (letOwnedTupleGo tg (.ref it) v) (fun _ s₂=>wpAny (model X.prog X.w) X.A (assign tg X.env v) (fun _ s₃=>wpAny (model X.prog X.w) X.A body (fun _ s₄=>∃ m,m < n /\ P m (i+1) s₄) FF s₃) FF s₂) FF s₁) FF s3:=by
      intro d rest next go yl qd fin
      refine thn (T.item X rfl rfl rfl hcalm i pins s3 σ3 H3 FF I3 (stat fr3) st3 go) fun r s4 ⟨u,hr4,h4⟩=>?_
      subst hr4
      refine thn h4 fun _ s5 ⟨x,H5,I5,r5,y5,st5,fr5⟩=>?_
      obtain ⟨x5,hM5,rd⟩:=yl x H5 y5
      have I5':=I5.pinned (stat fr5) (T.obj _ _ st5)
      obtain ⟨acc6,M6,e6,q6⟩:=zbe qd
      obtain ⟨ρ1,M7,e7,e8⟩:=zfi e6
      cases eb:zde t d ρ with
      | none=>rw [eb] at e7;cases e7
      | some ρ2 =>
        rw [eb] at e7
        cases e7
        have hg':=hg _ s5 σ3 H5 x u (fun σ' H'=>H'=H5 /\ zbv fa X.K μ3 H5 σ' ρ1) I5' r5 ⟨μ3,ρ,_,d,ρ1,hE3.ext x5,hM5,rd,eb,fun σ1 h1=>⟨rfl,h1⟩⟩
        rw [hx] at hg'
        refine thn hg' fun _ s6 ⟨σ6,H6,I6,eH,hE6⟩=>?_
        subst eH
        have hH6:H6 a=some (.lst vs3):=by rw [x5.pk a ha3];exact hH3
        have hb':=hb _ s6 σ6 H6 (fun σ' H'=>∃ μ' vs',zf1 a μ3 H6 μ' H' /\ zbv fa X.K μ' H' σ' ρ1 /\ RelM fa X.K μ' H' M6 /\ H' a=some (.lst vs') /\ za3 fa X.K μ' H' acc6 vs') μ3 ρ1 _ acc3 vs3 I6 hE6 hM5 (clW d ρ1 eb) ha3 hH6 (hr3.ext x5) (by
          rw [e8];exact fun σ' H' μ' vs' z1 z2 z3 z4 z5=>⟨μ',vs',z1,z2,z3,z4,z5⟩)
        rw [hx] at hb'
        refine thn hb' fun _ s7 ⟨σ7,H7,I7,μ7,vs7,x7,hE7,hM7,hH7,hr7⟩=>?_
        refine fin σ7 H7 μ7 M6 acc6 vs7 s7 I7.unpinned (T.keep _ _ _ st5 fun b hb o e=>(I7.pin (b,o) (List.mem_append_right _ (List.mem_append_right _ (zhq hb e)))).1) (fun b hb=>?_) ((x3.trans x5.toD).trans x7) (hE7.unbind eb clt) hM7 hH7 hr7 q6
        obtain ⟨o,e,dd⟩:=T.obj _ _ st5 b hb
        exact (I7.pin (b,o) (List.mem_append_right _ (List.mem_append_right _ (zhq hb e)))).2.1
    have stop:J.stop i H3->okE (.ok acc3 M3) (WB fa X.K a μ H ρ Q)->wpAny (model X.prog X.w) X.A (pyNext (.ref it)) (fun r s₁=>match r with
          | none=>(∃ σ' H',Inv X pins σ' H' s₁ /\ Q σ' H')
          | some v=>wpAny (model X.prog X.w) X.A (letOwnedTupleGo tg (.ref it) v) (fun _ s₂=>wpAny (model X.prog X.w) X.A (assign tg X.env v) (fun _ s₃=>wpAny (model X.prog X.w) X.A body (fun _ s₄=>∃ m,m < n /\ P m (i+1) s₄) FF s₃) FF s₂) FF s₁) FF s3:=fun hs q=>by
      refine thn (T.done X rfl rfl rfl hcalm i pins s3 σ3 H3 FF I3 (stat fr3) st3 hs) fun r s4 ⟨hr4,I4⟩=>?_
      subst hr4
      have q:WB fa X.K a μ H ρ Q acc3 M3:=q
      exact ⟨σ3,H3,I4,q σ3 H3 μ3 vs3 x3 hE3 hM3 hH3 hr3⟩
    cases n with
    | zero=>exact q3.elim
    | succ n =>
      unfold zfg at q3
      cases e2:w M3 with
      | none=>rw [e2] at q3;exact q3.elim
      | some ds =>
        rw [e2] at q3
        dsimp only at q3
        obtain ⟨go,stp⟩:=wk μ3 H3 M3 ds x3.toExtW hM3 e2
        cases ed:ds[i]? with
        | none =>
          rw [ed] at q3
          exact stop (stp i (List.getElem?_eq_none_iff.mp ed)) q3
        | some d =>
          rw [ed] at q3
          obtain ⟨g1,g2⟩:=go i d ed
          refine one d (zfg (zeg t g ρ) w n (i+1)) (fun _ _=>True) g1 g2 q3 ?_
          intro σ' H' μ' M' acc' vs' s' z1 z2 z3 z4 z5 z6 z7 z8 z9
          exact ⟨n,by omega,σ',H',μ',M',acc',vs',z1,z2,z3,z4,z5,z6,z7,z8,z9⟩
  refine zwk heq (fun n s'=>∃ i,P n i s') (fun n s3 ⟨i,h3⟩=>?_) m0 ⟨0,P0⟩
  refine thn (hturn n i s3 h3) fun r s1 h=>?_
  cases r with
  | none=>exact ⟨rfl,h⟩
  | some v=>exact thn h fun _ s2 h=>thn h fun _ s3 h=>thn h fun _ s4 ⟨m,hm,h⟩=>⟨m,hm,i+1,h⟩
end
end LD
namespace LD
open PySem PySem.Spec PyProof.Rows L2
section
variable {prog:Program}{w:World}{A:Around}{s:Shared}{R:Result->Shared->Prop}
theorem zo2 {elt t1 i1 t2 i2:PySem.Expr}{f1 f2:List PySem.Expr}{scope:Scope}{pos:Pos}{it acc:Value}{env:PySem.Env}
    (h0:codeAny (model prog w) A (.compLoop (.ListComp elt [⟨t1,i1,f1,0⟩,⟨t2,i2,f2,0⟩] scope pos) 1 it acc env) R s)
    (h:wpAny (model prog w) A (pyIter it) (fun it' s'=>codeAny (model prog w) A (.compLoop (.ListComp elt [⟨t1,i1,f1,0⟩,⟨t2,i2,f2,0⟩] scope pos) 1 it' acc env) R s')
      (notedBy (model prog w) A env fun x s'=>R (.error x) s') s) :
    codeAny (model prog w) A (.compStart (.ListComp elt [⟨t1,i1,f1,0⟩,⟨t2,i2,f2,0⟩] scope pos) 1 it acc env) R s:=by
  refine codeAny_of_tree ?_
  show wpAny _ _ ((compStart (.ListComp elt [⟨t1,i1,f1,0⟩,⟨t2,i2,f2,0⟩] scope pos) 1 it acc env).onRaise (fun x=>do noteFrame x env;standAt theWindowsPlace)) _ _ s
  refine wpAny_notedAt ?_
  unfold compStart
  show wpAny _ _ (ask >>= _) _ _ s
  refine wpAny_bind (wpAny_askSetting (wpAny_ite ?_))
  split
  · first
      | exact wpAny_bind (wpAny_pure (wpAny_pure (And.intro rfl h0)))
      | exact wpAny_pure (And.intro rfl h0)
  · first
      | exact wpAny_bind (wpAny_rule (wpAny_bind (wpAny_standAt (wpAny_bind (wpAny_mono h (fun it' s' h'=>wpAny_pure (And.intro rfl h')) fun _ _ x=>x)))))
      | (refine wpAny_bind (wpAny_rule ?_);show wpAny _ _ (standAt i2.pos >>= _) _ _ s;exact wpAny_bind (wpAny_standAt (wpAny_bind (wpAny_mono h (fun it' s' h'=>wpAny_pure (And.intro rfl h')) fun _ _ x=>x))))
end
section
variable {fa:Fa}{X:Cx}{a:Addr}
theorem db_gen {elt t1 i1 t2 i2:PySem.Expr}{scope:Scope}{pos:Pos}{t:Tgt}{gw:Env->Mem->Res Walk}{ge:Env->Mem->Res D} (hx:X.xe=FF) (hcalm:X.calm=true) (hi:DI fa X t2 i2 gw) (hg:PG X t2 (gT fa X.K t)) (he:DE fa X elt ge)
    (hs:∀ x,foldedSetIterable i2 X.env x=pure x) :
    DB fa X a (slots t) (eval i2 X.env >>= fun x=>standAt i2.pos >>= fun _=>foldedSetIterable i2 X.env x >>= fun x=>holding [x] (pyIter x) >>= fun j=>runOwn (.compStart (.ListComp elt [⟨t1,i1,[],0⟩,⟨t2,i2,[],0⟩] scope pos) 1 j (.ref a) X.env) X.env >>= fun _=>pure ()) (zli t gw (zb7 ge)):=by
  intro pins s σ H Q μ ρ M acc vs I hE hM hc ha hH hr h
  obtain ⟨w,M1,e,q⟩:=zbe h
  refine wpAny_bind (thn (hi pins s σ H (fun J H1=>∃ μ1,Ext μ H μ1 H1 /\ RelM fa X.K μ1 H1 M1 /\ zey fa X.K μ1 H1 w J) I ⟨μ,ρ,M,hE,hM,?_⟩) fun v s1 h1=>?_)
  · rw [e];exact fun J H1 μ1 x1 m1 wk=>⟨μ1,x1,m1,wk⟩
  refine wpAny_bind (wpAny_standAt (wpAny_bind (wpAny_of_eq (hs v) (wpAny_bind (wpAny_holding (thn h1 fun itv s2 h2=>?_))))))
  obtain ⟨it,fp,tn,J,H2,ei,I2,T,st2,f2,μ2,x2,m2,wk⟩:=h2
  subst ei
  have hH2:H2 a=some (.lst vs):=by rw [x2.pk a ha];exact hH
  have ha2:a∈μ2.priv:=by rw [x2.pr];exact ha
  have go:=zss (elt:=elt) (gens:=[⟨t1,i1,[],0⟩,⟨t2,i2,[],0⟩]) (scope:=scope) (pos:=pos) (W:=[]) (Q:=Q) (zxg elt t1 i1 t2 i2 scope pos (.ref it) (.ref a) X.env) hx hcalm T hg (zms he) (fun i hi=>nomatch hi) I2 st2 f2 (hE.ext x2) m2 (by simpa using hc) ha2 hH2 (hr.ext x2) wk (zbu q fun _ _ z=>z.ext x2.toD)
  refine wpAny_bind (wpAny_runOwn (h:=none) ?_)
  have go':codeAny (model X.prog X.w) (X.A.mark none) (.compLoop (.ListComp elt [⟨t1,i1,[],0⟩,⟨t2,i2,[],0⟩] scope pos) 1 (.ref it) (.ref a) X.env) (fun r s'=>match r with | .ok f=>wpAny (model X.prog X.w) X.A (pure ():Sem Unit) (fun _ s'=>∃ σ' H',Inv X pins σ' H' s' /\ Q σ' H') X.xe s' | .error e=>cameBackBy (model X.prog X.w) X.A X.env X.xe e s') s2:=
    codeAny_mono go fun r s' ⟨er,z⟩=>by subst er;exact wpAny_pure z
  exact zo2 go' (T.self _ 0 _ _ _ st2 go')
end
end LD
namespace LD
open PySem PySem.Spec PyProof.Rows L2
section
variable {fa:Fa}{K:PySem.W.Frag}{μ1 μ':Mu}{H1 H':Hp}{M1 M':Mem}{a:Addr}
def muP (μ:Mu) (a:Addr):Mu:=⟨μ.pub,a::μ.priv⟩
theorem zka (h:RelM fa K μ1 H1 M1) (ha:H1 a=none) (o:HO):ExtW μ1 H1 (muP μ1 a) (upd H1 a o):=by
  have x:ExtW μ1 H1 μ1 (upd H1 a o):=(Ext.alloc h ha).toExtW
  refine ⟨x.mu,x.tups,fun b vs e n=>⟨(x.lsts b vs e n).1,fun z=>?_⟩,x.frzs,x.exts⟩
  rcases z with z | z
  · exact n (.inl z)
  · rcases List.mem_cons.mp z with z | z
    · subst z;rw [ha] at e;cases e
    · exact n (.inr z)
theorem zve (h:RelM fa K μ1 H1 M1) (ha:H1 a=none) (vs:List V):RelM fa K (muP μ1 a) (upd H1 a (.lst vs)) M1:=by
  have x:=zka h ha (.lst vs)
  refine ⟨fun k ds e=>?_,h.out,h.inj,fun b hb=>?_⟩
  · obtain ⟨b,ws,h1,h2,h3⟩:=h.at' k ds e
    exact ⟨b,ws,h1,by rw [za1 (zbh h2 ha)];exact h2,h3.extW x⟩
  · rcases List.mem_cons.mp hb with z | z
    · subst z
      exact ⟨⟨vs,zc8⟩,fun k e=>by
        obtain ⟨_,_,_,q,_⟩:=h.mu_lt e
        rw [ha] at q;cases q⟩
    · obtain ⟨⟨ws,q⟩,n⟩:=h.pv b z
      exact ⟨⟨ws,by rw [za1 (zbh q ha)];exact q⟩,n⟩
theorem z03 {m:Bool}{acc:List D}{vs:List V}{Q:VK} (h:RelM fa K μ1 H1 M1) (ha:H1 a=none) (x:zf1 a (muP μ1 a) (upd H1 a (.lst [])) μ' H') (hM:RelM fa K μ' H' M') (hH:H' a=some (.lst vs)) (hr:za3 fa K μ' H' acc vs)
    (q:okE (zb5 m acc M') (zbt fa K μ1 H1 Q)):Q (.ref a) H':=by
  have na:a∉μ1.priv:=fun z=>h.pne ha z rfl
  have hp:μ'.priv=a::μ1.priv:=x.pr
  have nk:∀ k,μ'.pub k≠some a:=(hM.pv a (by rw [hp];exact List.mem_cons_self)).2
  have x0:=zka h ha (.lst [])
  have xe:Ext μ1 H1 ⟨μ'.pub,μ1.priv⟩ H':=by
    refine ⟨⟨fun k b e=>x.mu k b e,fun b ws e=>x.tups b ws (x0.tups b ws e),fun b ws e n=>?_,fun b ob u e=>x.frzs b ob u (x0.frzs b ob u e),fun b o i e=>x.exts b o i (x0.exts b o i e)⟩,rfl,fun b hb=>?_⟩
    · obtain ⟨z1,z2⟩:=x0.lsts b ws e n
      obtain ⟨z3,z4⟩:=x.lsts b ws z1 z2
      refine ⟨z3,fun z=>z4 ?_⟩
      rcases z with z | z
      · exact .inl z
      · exact .inr (by rw [hp];exact List.mem_cons_of_mem _ z)
    · have nb:b≠a:=fun e=>na (by rw [<- e];exact hb)
      rw [x.pk b (List.mem_cons_of_mem _ hb) nb,za1 nb]
  have xw:ExtW μ' H' ⟨μ'.pub,μ1.priv⟩ H':=⟨fun _ _ e=>e,fun _ _ e=>e,fun b ws e n=>⟨e,fun z=>n (z.elim .inl fun z=>.inr (by rw [hp];exact List.mem_cons_of_mem _ z))⟩,fun _ _ _ e=>e,fun _ _ _ e=>e⟩
  have me:RelM fa K ⟨μ'.pub,μ1.priv⟩ H' M':=⟨fun k ds e=>let ⟨b,ws,h1,h2,h3⟩:=hM.at' k ds e;⟨b,ws,h1,h2,h3.extW xw⟩,hM.out,hM.inj,fun b hb=>hM.pv b (by rw [hp];exact List.mem_cons_of_mem _ hb)⟩
  have re:za3 fa K ⟨μ'.pub,μ1.priv⟩ H' acc vs:=hr.extW xw
  have nMt:¬ (⟨μ'.pub,μ1.priv⟩:Mu).Mt a:=fun z=>z.elim (fun ⟨k,e⟩=>nk k e) na
  unfold zb5 at q
  split at q
  · cases m with
    | false =>
      have q:zbt fa K μ1 H1 Q (.lst acc) M':=q
      exact q (.ref a) H' _ xe me ⟨a,vs,rfl,⟨hH,nMt⟩,re⟩
    | true =>
      have q:zbt fa K μ1 H1 Q (.cell M'.length) (M'++[acc]):=q
      have pc:∀ k b,(zf5 ⟨μ'.pub,μ1.priv⟩ M'.length a).pub k=some b->(k=M'.length /\ b=a) \/ (k≠M'.length /\ μ'.pub k=some b):=fun k b e=>by
        have e:(if k=M'.length then some a else μ'.pub k)=some b:=e
        split at e
        · next z=>cases e;exact .inl ⟨z,rfl⟩
        · next z=>exact .inr ⟨z,e⟩
      have mc:∀ k b,μ'.pub k=some b->(zf5 ⟨μ'.pub,μ1.priv⟩ M'.length a).pub k=some b:=fun k b e=>by
        show (if k=M'.length then some a else μ'.pub k)=some b
        split
        · next z=>rw [z,hM.out _ (Nat.le_refl _)] at e;cases e
        · exact e
      have ac:(zf5 ⟨μ'.pub,μ1.priv⟩ M'.length a).pub M'.length=some a:=by
        show (if M'.length=M'.length then some a else _)=some a
        rw [if_pos rfl]
      have nc:∀ b,¬ μ'.Mt b->¬ (zf5 ⟨μ'.pub,μ1.priv⟩ M'.length a).Mt b:=fun b n z=>by
        rcases z with ⟨k,z⟩ | z
        · rcases pc k b z with ⟨_,e⟩ | ⟨_,e⟩
          · exact n (.inr (by rw [hp,e];exact List.mem_cons_self))
          · exact n (.inl ⟨k,e⟩)
        · exact n (.inr (by rw [hp];exact List.mem_cons_of_mem _ z))
      have xc:ExtW μ' H' (zf5 ⟨μ'.pub,μ1.priv⟩ M'.length a) H':=⟨mc,fun _ _ e=>e,fun b ws e n=>⟨e,nc b n⟩,fun _ _ _ e=>e,fun _ _ _ e=>e⟩
      have xe2:Ext μ1 H1 (zf5 ⟨μ'.pub,μ1.priv⟩ M'.length a) H':=by
        refine ⟨⟨fun k b e=>mc k b (x.mu k b e),xe.tups,fun b ws e n=>?_,xe.frzs,xe.exts⟩,rfl,xe.pk⟩
        obtain ⟨z1,z2⟩:=x0.lsts b ws e n
        obtain ⟨z3,z4⟩:=x.lsts b ws z1 z2
        exact ⟨z3,nc b z4⟩
      have mce:RelM fa K (zf5 ⟨μ'.pub,μ1.priv⟩ M'.length a) H' (M'++[acc]):=by
        refine ⟨fun k ds e=>?_,fun k hk=>?_,fun j k b e1 e2=>?_,fun b hb=>?_⟩
        · by_cases hk:k < M'.length
          · rw [List.getElem?_append_left hk] at e
            obtain ⟨b,ws,h1,h2,h3⟩:=hM.at' k ds e
            exact ⟨b,ws,mc k b h1,h2,h3.extW xc⟩
          · have hk':k=M'.length:=by
              have:=(List.getElem?_eq_some_iff.mp e).1
              simp at this;omega
            subst hk'
            rw [List.getElem?_append_right (Nat.le_refl _)] at e
            simp at e
            subst e
            exact ⟨a,vs,ac,hH,hr.extW xc⟩
        · simp at hk
          show (if k=M'.length then some a else μ'.pub k)=none
          rw [if_neg (by omega)]
          exact hM.out k (by omega)
        · rcases pc j b e1 with ⟨j1,j2⟩ | ⟨j1,j2⟩<;>rcases pc k b e2 with ⟨k1,k2⟩ | ⟨k1,k2⟩
          · omega
          · exact absurd (j2 ▸ k2) (nk k)
          · exact absurd (k2 ▸ j2) (nk j)
          · exact hM.inj j k b j2 k2
        · have hb:b∈μ1.priv:=hb
          obtain ⟨z1,z2⟩:=hM.pv b (by rw [hp];exact List.mem_cons_of_mem _ hb)
          refine ⟨z1,fun k e=>?_⟩
          rcases pc k b e with ⟨_,e⟩ | ⟨_,e⟩
          · exact na (e ▸ hb)
          · exact z2 k e
      exact q (.ref a) H' _ xe2 mce ⟨a,rfl,ac⟩
  · exact q.elim
end
section
variable {fa:Fa}{X:Cx}
def zb3 (m:Bool) (n:Nat) (t:Tgt) (gw:Env->Mem->Res Walk) (g:Env->List D->Mem->Res (List D)):Env->Mem->Res D:=fun ρ M=>
  (gw ρ M).bind fun w M=>(zes (zeg t g (List.replicate n none++ρ)) w [] M).bind (zb5 m)
def zmx (X:Cx) (elt tg iter:PySem.Expr) (ifs:List PySem.Expr) (rest:List Comprehension) (scope:Scope) (pos:Pos) (body:Addr->PySem.Env->Sem Unit):Prop:=
  ∀ (it a:Addr) (env:PySem.Env),compTurn (.ListComp elt (⟨tg,iter,ifs,0⟩::rest) scope pos) 0 (.ref it) (.ref a) env=(standAt iter.pos >>= fun _=>pyNext (.ref it) >>= fun r=>match r with
      | none=>pure (.done .next)
      | some v=>letOwnedTupleGo tg (.ref it) v >>= fun _=>assign tg env v >>= fun _=>body a env >>= fun _=>again (.compLoop (.ListComp elt (⟨tg,iter,ifs,0⟩::rest) scope pos) 0 (.ref it) (.ref a) env))
structure Block (fa:Fa) (X:Cx) (own bn:List Str) (scope:Scope) (tg:PySem.Expr) (t:Tgt) (W:List Nat) (body:Addr->PySem.Env->Sem Unit) (g:Env->List D->Mem->Res (List D)):Prop where
  pg:∀ cl C fp s H,PG (zbz X own bn scope cl C fp s H) tg (gT fa X.K t)
  db:∀ cl C fp s H a,DB fa (zbz X own bn scope cl C fp s H) a W (body a (compEnvC scope cl C X.env)) g
theorem zwm {n:Nat}{W:List Nat}{ρ:Env} (h:∀ i∈W,i < n):Clear W (List.replicate n none++ρ):=fun i hi d e=>by
  rw [List.getElem?_append_left (by simpa using h i hi),List.getElem?_replicate] at e
  simp [h i hi] at e
theorem zxw {K:PySem.W.Frag}{μ:Mu}{H:Hp}{σ:L2.St}{ρ:Env} (n:Nat) (h:zbv fa K μ H σ ρ):zbv fa K μ H (List.replicate n none++σ) (List.replicate n none++ρ):=by
  refine ⟨by simp [h.len],fun i d e=>?_⟩
  by_cases hi:i < n
  · rw [List.getElem?_append_left (by simpa using hi),List.getElem?_replicate] at e
    simp [hi] at e
  · rw [List.getElem?_append_right (by simp;omega)] at e ⊢
    simp only [List.length_replicate] at e ⊢
    exact h.at' _ d e
theorem zmt {elt tg iter:PySem.Expr}{ifs:List PySem.Expr}{rest:List Comprehension}{scope:Scope}{pos p0:Pos}{own bn:List Str}{t:Tgt}{W:List Nat}{body:Addr->PySem.Env->Sem Unit}{gw:Env->Mem->Res Walk}{g:Env->List D->Mem->Res (List D)}{m:Bool}
    (S:zer X own bn scope) (hcalm:X.calm=true) (hi:DI fa X tg iter gw) (B:Block fa X own bn scope tg t W body g) (hT:zmx X elt tg iter ifs rest scope pos body) (hW:∀ i∈W,i∉slots t) (hn:∀ i∈slots t++W,i < own.length)
    (hs:∀ x,foldedSetIterable iter X.env x=pure x) {use:Option (Value->Sem Unit)}{QQ:Value->Shared->Prop}
    {pins:List (Addr×Obj)}{s:Shared}{σ:L2.St}{H:Hp}{Q:VK}{μ:Mu}{ρ:Env}{M:Mem} (I:Inv X pins σ H s) (hE:zbv fa X.K μ H σ ρ) (hM:RelM fa X.K μ H M) (h:okE (zb3 m own.length t gw g ρ M) (zbt fa X.K μ H Q))
    (post:∀ (a C:Addr) (s':Shared) (H':Hp),Inv X pins σ H' s'->Q (.ref a) H'->(∃ m,s'.heap.Ns C m)->(∀ σ2 H2 s2,Inv X pins σ2 H2 s2->(H' C=none->H2 C=none)->H2 C=none /\ ∀ h'',Heap.SameBut C s2.heap h''->Inv X pins σ2 H2 {s2 with heap:=h''})->H' C=none->(C≠X.env.locals /\ ∀ x c,X.env.cells.lookup x=some c->c≠C)->compPost (model X.prog X.w) X.A X.xe use QQ (.ref a) C (.ok .next) s') :
    wpAny (model X.prog X.w) X.A (comprehension (.ListComp elt (⟨tg,iter,ifs,0⟩::rest) scope pos) scope X.env p0 (newList []) false (eval iter X.env) use) QQ X.xe s:=by
  obtain ⟨w,M1,ew,q⟩:=zbe h
  obtain ⟨acc,M2,ea,q2⟩:=zbe q
  obtain ⟨cl,hcl,hsub,hhas⟩:=zua (scope:=scope) (env:=X.env) fun y hy hf=>I.ok.has y.1 (S.free y hy hf)
  have CL:Cl X scope cl:=⟨hsub,hhas⟩
  refine wpAny_comprehension_free (use:=use) rfl hs hcl S.kind S.loc ?_
  refine thn (hi pins s σ H (fun J H1=>∃ μ1,Ext μ H μ1 H1 /\ RelM fa X.K μ1 H1 M1 /\ zey fa X.K μ1 H1 w J) I ⟨μ,ρ,M,hE,hM,?_⟩) fun v s1 h1=>thn h1 fun itv s2 h2=>?_
  · rw [ew];exact fun J H1 μ1 x1 m1 wk=>⟨μ1,x1,m1,wk⟩
  obtain ⟨it,fp,tn,J,H2,ei,I2,T,st2,f2,μ2,x2,m2,wk⟩:=h2
  subst ei
  refine wpAny_newObj_type ?_
  have ha:H2 s2.heap.objs.size=none:=I2.hok.fresh (Nat.le_refl _)
  have I3:Inv X pins σ (upd H2 s2.heap.objs.size (.lst [])) {s2 with heap:=s2.heap.push {cls:=.type "list",dict:=none,data:=.seq ([]:List Value).toArray}}:=
    I2.laid (t':=s2.toks) (fun b o e=>Heap.get?_push_of_some _ e) (Nat.le_refl _) ⟨Nat.zero_le _,[],_,.nil,Heap.get?_push_size _ rfl⟩
  generalize hs3:({s2 with heap:=s2.heap.push {cls:=.type "list",dict:=none,data:=.seq ([]:List Value).toArray}}:Shared)=s3 at I3 ⊢
  have k3:∀ b o,s2.heap.get? b=some o->s3.heap.get? b=some o:=fun b o e=>by rw [<- hs3];exact Heap.get?_push_of_some _ e
  have fo2:=T.obj _ _ st2
  have f3:∀ b∈fp,zf9 X pins (upd H2 s2.heap.objs.size (.lst [])) b:=fun b hb=>by
    obtain ⟨o,e,_⟩:=fo2 b hb
    exact ⟨by rw [za1 (Nat.ne_of_lt (Heap.lt_size e))];exact (f2 b hb).1,(f2 b hb).2⟩
  have fo3:∀ b∈fp,∃ o,s3.heap.get? b=some o:=fun b hb=>let ⟨o,e,_⟩:=fo2 b hb;⟨o,k3 b o e⟩
  refine wpAny_newFunctionEnv S.nocell (by intro y hy;simp at hy) (fun h₁ hns₁ hsb₁=>?_) S.kind
  have k4:∀ b o,s3.heap.get? b=some o->h₁.get? b=some o:=fun b o e=>hsb₁.extBut b o (Nat.ne_of_lt (Heap.lt_size e)) (Heap.get?_push_of_some _ e)
  have I4:=zy1 (own:=own) (bn:=bn) (t':=s3.toks+([]:List (Str×Value)).length) I3 S CL f3 fo3 hns₁ k4
  have ok4:=I4.ok
  have f4:∀ b∈fp,zf9 (zbz X own bn scope cl s3.heap.objs.size fp s3 (upd H2 s2.heap.objs.size (.lst []))) [] (upd H2 s2.heap.objs.size (.lst [])) b:=fun b hb=>
    ⟨(f3 b hb).1,(ok4.exf b hb).1,ok4.exfs b hb,.inl hb,(ok4.exf b hb).2,fun p hp=>nomatch hp⟩
  have st4:tn 0 h₁:=T.keep _ _ _ st2 fun b hb o e=>k4 b o (k3 b o e)
  have x3:=zka m2 ha (.lst [])
  have go:=zss (X:=zbz X own bn scope cl s3.heap.objs.size fp s3 (upd H2 s2.heap.objs.size (.lst []))) (fa:=fa) (a:=s2.heap.objs.size) (W:=W) (t:=t) (g:=g) (acc:=[]) (vs:=[]) (Q:=fun _ H'=>Q (.ref s2.heap.objs.size) H') (hT it s2.heap.objs.size _) rfl hcalm T (B.pg _ _ _ _ _) (B.db _ _ _ _ _ _) hW I4 st4 f4
    (zxw own.length ((hE.ext x2).extW x3)) (zve m2 ha []) (zwm hn) List.mem_cons_self zc8 rfl (zup wk x3) (by
      rw [ea]
      intro σ' H' μ' vs' z1 z2 z3 z4 z5
      exact z03 (m:=m) m2 ha z1 z3 z4 z5 (okW q2 x2))
  have go':codeAny (model X.prog X.w) X.A (.compLoop (.ListComp elt (⟨tg,iter,ifs,0⟩::rest) scope pos) 0 (.ref it) (.ref s2.heap.objs.size) (compEnvC scope cl s3.heap.objs.size X.env)) (compPost (model X.prog X.w) X.A X.xe use QQ (.ref s2.heap.objs.size) s3.heap.objs.size) {s3 with heap:=h₁,toks:=s3.toks+([]:List (Str×Value)).length}:=
    codeAny_mono go fun r s' ⟨er,σ',H',I',z⟩=>by
      subst er
      refine post _ _ s' H' (comp_back I3 f3 I') z (let ⟨m,hn,_⟩:=I'.loc;⟨m,hn⟩) (fun σ2 H2 s2' I2' hf=>⟨hf I'.free,fun h'' hs''=>zwl I3 (hf I'.free) I2' hs''⟩) I'.free ⟨Nat.ne_of_gt I3.lt,fun x c e z=>by
        obtain ⟨v,q⟩:=I3.cell x c e
        exact absurd q.lt (by rw [z];exact Nat.lt_irrefl _)⟩
  exact codeAny_compStart_list go' (T.self _ 0 _ _ _ st4 go')
theorem zwh (m:Bool) {elt tg iter:PySem.Expr}{ifs:List PySem.Expr}{rest:List Comprehension}{scope:Scope}{pos:Pos}{own bn:List Str}{t:Tgt}{W:List Nat}{body:Addr->PySem.Env->Sem Unit}{gw:Env->Mem->Res Walk}{g:Env->List D->Mem->Res (List D)}
    (S:zer X own bn scope) (hcalm:X.calm=true) (hi:DI fa X tg iter gw) (B:Block fa X own bn scope tg t W body g) (hT:zmx X elt tg iter ifs rest scope pos body) (hW:∀ i∈W,i∉slots t) (hn:∀ i∈slots t++W,i < own.length)
    (hs:∀ x,foldedSetIterable iter X.env x=pure x):DE fa X (.ListComp elt (⟨tg,iter,ifs,0⟩::rest) scope pos) (zb3 m own.length t gw g):=by
  intro pins s σ H Q I ⟨μ,ρ,M,hE,hM,h⟩
  rw [eval_ListComp]
  refine zmt (use:=none) S hcalm hi B hT hW hn hs I hE hM h ?_
  intro a C s' H' I' q ⟨m,hn⟩ gone hf _
  exact ⟨m,hn,fun h' hs'=>⟨.ref a,H',(gone σ H' s' I' id).2 h' hs',rfl,q⟩⟩
theorem zt7 (m:Bool) {i:Nat}{y:Str}{py spos:Pos}{elt tg iter:PySem.Expr}{ifs:List PySem.Expr}{rest:List Comprehension}{scope:Scope}{pos:Pos}{own bn:List Str}{t:Tgt}{W:List Nat}{body:Addr->PySem.Env->Sem Unit}{gw:Env->Mem->Res Walk}{g:Env->List D->Mem->Res (List D)}
    (S:zer X own bn scope) (hcalm:X.calm=true) (hi:DI fa X tg iter gw) (B:Block fa X own bn scope tg t W body g) (hT:zmx X elt tg iter ifs rest scope pos body) (hW:∀ i∈W,i∉slots t) (hn:∀ i∈slots t++W,i < own.length)
    (hs:∀ x,foldedSetIterable iter X.env x=pure x) (hN:X.N.Nodup) (hy:X.N[i]?=some y) (hl:X.env.scope.names.lookup y=some .local)
    (hsw:swapsWith (.ListComp elt (⟨tg,iter,ifs,0⟩::rest) scope pos) (some (.Name y py)) spos.line X.env=pure true) :
    DS fa X (.Assign [.Name y py] (.ListComp elt (⟨tg,iter,ifs,0⟩::rest) scope pos) spos) (fun ρ M=>(zb3 m own.length t gw g ρ M).bind fun x M=>(ofO M (zde (.one i) x ρ)).bind fun ρ1 M=>.ok (.next ρ1) M):=by
  intro pins s σ H D' I ⟨μ,ρ,M,hE,hM,h⟩
  obtain ⟨x,M1,ex,q⟩:=zbe h
  have q:∀ σ' H' μ',Ext μ H μ' H'->zbv fa X.K μ' H' σ' (ρ.set i (some x))->RelM fa X.K μ' H' M1->D'.nx σ' H':=q
  rw [exec_Assign_Name_used _ _ _ _ hsw]
  refine wpAny_bind (wpAny_standAt (wpAny_bind ?_))
  show wpAny _ X.A (do let _ <- comprehension (.ListComp elt (⟨tg,iter,ifs,0⟩::rest) scope pos) scope X.env _ (newList []) false (eval iter X.env) (some (assign (.Name y py) X.env))) _ _ s
  refine wpAny_bind (thn (zmt (use:=some (assign (.Name y py) X.env)) (QQ:=fun _ s'=>SP X pins D' .next s') (Q:=fun v H'=>D'.nx (σ.set i (some v)) H') S hcalm hi B hT hW hn hs I hE hM (by
    rw [ex]
    exact fun v H' μ' x1 m1 r1=>q _ H' μ' x1 ((hE.ext x1).set r1) m1) ?_) fun _ s' hq=>wpAny_pure (wpAny_pure hq))
  intro a C s' H' I' q ⟨m,hn⟩ gone hf ⟨nL,nC⟩
  refine wpAny_assign_Name (zn6 I' hN hy (.inl hl) (v:=.ref a) rfl (fun s2 I2 ⟨b,hb,hb2⟩=>?_) (.inr hl))
  have nb:C≠b:=by
    rcases hb2 with z | z
    · rw [z];exact nL
    · exact Ne.symm (nC y b z)
  exact ⟨m,hn.sameBut hb nb,fun h' hs'=>⟨_,H',(gone _ H' s2 I2 id).2 h' hs',q⟩⟩
end
end LD
namespace LD
open PySem PySem.Spec PyProof.Rows L2
section
variable {X:Cx}{pins:List (Addr×Obj)}{σ:L2.St}{H:Hp}{s:Shared}{h':Heap}{t':Nat}{ch:List Addr}
theorem zr7 (I:Inv X pins σ H s) (hf:∀ b∈ch,zf9 X pins H b) (k:∀ b o,b∉ch->s.heap.get? b=some o->h'.get? b=some o):Inv X pins σ H {s with heap:=h',toks:=t'}:=by
  have nit:∀ b u,H b=some u->b∉ch:=fun b u e z=>by rw [(hf b z).1] at e;cases e
  refine I.step (g':=s.gens) (d':=s.drawn) (ch:=ch) (fun b hb=>⟨(hf b hb).2.2.2.1,(hf b hb).2.1,(hf b hb).2.2.2.2.1,(hf b hb).2.2.2.2.2⟩) (fun b o _ _ hc e _=>k b o hc e) (fun b o _ _ hc e _=>⟨o.slots,k b o hc e⟩) (fun _ _ _ _ n=>n)
    (fun b o hc e=>⟨o,k b o hc e⟩) (fun _ _ e=>e) (fun _ _ _ e=>e) (fun b ps e=>⟨#[],by rw [e];simp⟩) (fun m hm=>?_) (fun b u e=>?_) I.bare
  · obtain ⟨o,es,ep,ho,r⟩:=hm
    exact ⟨o,es,ep,k _ o (fun z=>(hf _ z).2.1 rfl) ho,r⟩
  · refine (I.hok b u e).stay (fun c v hc q=>k c v ?_ q) (fun _ q=>q) fun _ _ q=>q
    rcases hc with z | z
    · rw [z];exact nit b u e
    · exact nit c _ z
theorem zn3 {T:Addr}{o:HO} (I:Inv X pins σ H s) (hf:∀ b∈ch,zf9 X pins H b) (k:∀ b o,b∉ch->s.heap.get? b=some o->h'.get? b=some o) (hT:s.heap.objs.size≤T) (new:zdm X.prog X.w (upd H T o) h' T o) :
    Inv X pins σ (upd H T o) {s with heap:=h',toks:=t'}:=by
  have hn:H T=none:=I.hok.fresh hT
  have nit:∀ b u,H b=some u->b∉ch:=fun b u e z=>by rw [(hf b z).1] at e;cases e
  refine I.step (g':=s.gens) (d':=s.drawn) (ch:=ch) (fun b hb=>⟨(hf b hb).2.2.2.1,(hf b hb).2.1,(hf b hb).2.2.2.2.1,(hf b hb).2.2.2.2.2⟩) (fun b o _ _ hc e _=>k b o hc e) (fun b o _ _ hc e _=>⟨o.slots,k b o hc e⟩)
    (fun b o _ e n=>by rw [za1 (Nat.ne_of_lt (Nat.lt_of_lt_of_le (Heap.lt_size e) hT))];exact n)
    (fun b o hc e=>⟨o,k b o hc e⟩) (fun b xs e=>by rw [za1 (zbh e hn)];exact e) (fun b ob u e=>by rw [za1 (zbh e hn)];exact e) (fun b ps e=>⟨#[],by rw [za1 (zbh e hn),e];simp⟩) (fun m hm=>?_) (fun b u e=>?_) I.bare
  · obtain ⟨o,es,ep,ho,r⟩:=hm
    exact ⟨o,es,ep,k _ o (fun z=>(hf _ z).2.1 rfl) ho,r⟩
  · by_cases hb:b=T
    · subst hb;rw [zc8] at e;cases e;exact new
    · rw [za1 hb] at e
      refine (I.hok b u e).stay (fun c v hc q=>k c v ?_ q) (fun c q=>by rw [za1 (zbh q hn)];exact q) fun c xs q=>by rw [za1 (zbh q hn)];exact q
      rcases hc with z | z
      · rw [z];exact nit b u e
      · exact nit c _ z
end
def Ite (K:PySem.W.Frag) (a:Addr):It:=
  ⟨fun i H=>∃ xs x,SqL K H a xs /\ xs[i]?=some x,fun i H v H'=>∃ p x,H p=none /\ v=.ref p /\ H'=upd H p (.tup [.int i,x]) /\ ∀ xs,SqL K H a xs->xs[i]?=some x,fun i H=>∃ xs,SqL K H a xs /\ xs.length≤i⟩
theorem zuv {P:Program}{w:World}{K:PySem.W.Frag}{elts:List PySem.Expr}{kk:Nat}{pos:Pos} (a it e:Addr) (hne:e≠it) :
    Turn P w K (.Tuple elts kk pos) (Ite K a) [e,it] e (fun i h=>(∃ old,IsEnum h e it (i:Nat) old) /\ h.IsListIter it a i) where
  mem:=by simp
  obj:=fun i h ⟨⟨old,he⟩,o,ho,c,d⟩ b hb=>by
    rcases List.mem_cons.mp hb with z | z
    · subst z;exact ⟨_,he,fun v z=>by cases z⟩
    · have e:b=it:=by simpa using z
      subst e
      exact ⟨o,ho,fun v z=>by rw [d] at z;cases z⟩
  keep:=fun i h h' ⟨⟨old,he⟩,st⟩ k=>⟨⟨old,k e (by simp) _ he⟩,st.at fun o e=>k it (by simp) o e⟩
  item:=by
    intro X hP hw hK hc i pins s σ H E I hf st hg
    subst hP hw hK
    obtain ⟨xs,x,hq,hx⟩:=hg
    obtain ⟨⟨old,he⟩,hit⟩:=st
    obtain ⟨its,rv,p,hz⟩:=I.list hq
    obtain ⟨u,hu,ru⟩:=rv.get hx
    refine wpAny_pyNext_enum_item he hit p.isList (x:=u) (by simpa using hu) hne fun h1 ho hit1 hT hsz hk=>⟨_,rfl,?_⟩
    have hT0:H s.heap.objs.size=none:=I.hok.fresh (Nat.le_refl _)
    have elt:e < s.heap.objs.size:=Heap.lt_size he
    refine wpAny_letOwnedTupleGo_enum (s:={s with heap:=h1,toks:=s.toks+1}) ho fun h2 he2 hs2=>?_
    have he2:IsEnum h2 e it ((i+1:Nat):Int) u:=by simpa using he2
    have hT2:h2.get? s.heap.objs.size=some {cls:=.type "tuple",data:=.seq #[.int i s.toks,u]}:=(hs2.2 _ (Nat.ne_of_gt elt)).trans hT
    refine ⟨.ref s.heap.objs.size,upd H s.heap.objs.size (.tup [.int i,x]),zn3 (s:=s) (t':=s.toks+1) I hf (fun b o hb q=>(hs2.2 b (fun z=>hb (by simp [z]))).trans (hk b o (fun z=>hb (by simp [z])) (fun z=>hb (by simp [z])) q)) (Nat.le_refl _) ⟨?_,[.int i s.toks,u],.cons ⟨_,rfl⟩ (.cons ru .nil),⟨_,hT2,rfl,_,rfl⟩⟩,rfl,
      ⟨_,x,hT0,rfl,rfl,fun ys hy=>by rw [I.list_inj hy hq];exact hx⟩,⟨⟨u,he2⟩,hit1.extBut hs2.extBut (Ne.symm hne)⟩,fun b hb=>?_⟩
    · show 2≤sizeLine;decide
    · have:b < s.heap.objs.size:=by
        rcases List.mem_cons.mp hb with z | z
        · subst z;exact elt
        · have e:b=it:=by simpa using z
          subst e
          obtain ⟨o,e,_⟩:=hit;exact Heap.lt_size e
      rw [za1 (Nat.ne_of_lt this)];exact (hf b hb).1
  done:=by
    intro X hP hw hK hc i pins s σ H E I hf st hg
    subst hP hw hK
    obtain ⟨xs,hq,hx⟩:=hg
    obtain ⟨⟨old,he⟩,hit⟩:=st
    obtain ⟨its,rv,p,hz⟩:=I.list hq
    have hl:=rv.length
    exact wpAny_pyNext_enum_end (I.ok.hd hc) he hit p.isList (by simp;omega) fun h' eb=>⟨rfl,zr7 I hf (t':=s.toks) fun b o hb q=>eb b o (fun z=>hb (by simp [z])) q⟩
  self:=fun _ _ _ _ _ ⟨⟨old,he⟩,_⟩ h=>wpAny_pyIter_enum he h
section
variable {fa:Fa}{X:Cx}{a:PySem.Expr}{ga:Env->Mem->Res D}{pos p:Pos}
theorem zkc:∀ (ds:List D) (k i:Nat),(zfh k ds)[i]?=(ds[i]?).map fun d=>.tup [.int ((k+i:Nat):Int),d]
  | [],_,_=>by simp [zfh]
  | d::ds,k,0=>by simp [zfh]
  | d :: ds, k, i + 1 => by
    have:=zkc ds (k+1) i
    simp only [zfh,List.getElem?_cons_succ,this]
    congr 1
    funext d
    congr 3
    omega
theorem zkb:∀ (ds:List D) (k:Nat),(zfh k ds).length=ds.length
  | [],_=>rfl
  | d::ds,k=>by simp [zfh,zkb ds]
theorem zur {μ0:Mu}{H0:Hp}{dd:D}{ad:Addr} (h:Rep fa X.K μ0 H0 dd (.ref ad)):zey fa X.K μ0 H0 (fun M=>(rdD M dd).map (zfh 0)) (Ite X.K ad):=fun μ H M ds x hM e=>by
  dsimp only at e
  cases e0:rdD M dd with
  | none=>rw [e0] at e;cases e
  | some es =>
    rw [e0] at e
    have e:zfh 0 es=ds:=Option.some.inj e
    subst e
    obtain ⟨ad',vs,ea,s,r⟩:=zcf hM (Rep.extW x h) e0
    cases ea
    refine ⟨fun i d hd=>?_,fun i hi=>⟨vs,s,by rw [r.length,<- zkb es 0];exact hi⟩⟩
    rw [zkc] at hd
    cases e1:es[i]? with
    | none=>rw [e1] at hd;cases hd
    | some d0 =>
      rw [e1] at hd
      have hd:D.tup [.int ((0+i:Nat):Int),d0]=d:=Option.some.inj hd
      subst hd
      obtain ⟨v,hv,rv⟩:=r.get e1
      refine ⟨⟨vs,v,s,hv⟩,fun y H' ⟨q,z,hq,ey,eH,hy⟩=>?_⟩
      have:=hy vs s
      rw [hv] at this;cases this
      subst eH ey
      refine ⟨Ext.alloc hM hq,hM.alloc hq,q,[.int i,v],rfl,.inl (.inl zc8),.int i,[v],rfl,?_,v,[],rfl,rv.ext (Ext.alloc hM hq),rfl⟩
      show V.int i=V.int ((0+i:Nat):Int)
      rw [Nat.zero_add]
def zhr (ga:Env->Mem->Res D):Env->Mem->Res Walk:=fun ρ M=>(ga ρ M).bind fun x M=>match x with
  | .lst ds=>.ok (fun _=>some (zfh 0 ds)) M
  | .frz ds=>.ok (fun _=>some (zfh 0 ds)) M
  | .cell k=>.ok (fun M=>(M[k]?).map (zfh 0)) M
  | _=>.bad
theorem z18 {elts:List PySem.Expr}{kk:Nat}{tp:Pos} (ha:DE fa X a ga) (hg:Gl X "enumerate") (hm:X.mg "enumerate"=none) (hs:starEach [a] X.env=[(false,eval a X.env)]):DI fa X (.Tuple elts kk tp) (.Call (.Name "enumerate" p) [a] [] pos) (zhr ga):=by
  intro pins s σ H R I ⟨μ,ρ,M,hE,hM,h⟩
  obtain ⟨x,M1,e,q⟩:=zbe h
  have key:(∀ μ' H',RelM fa X.K μ' H' M1->∀ v,Rep fa X.K μ' H' x v->∃ ds,rdD M1 x=some ds)->(∀ J H' μ',Ext μ H μ' H'->RelM fa X.K μ' H' M1->zey fa X.K μ' H' (fun M=>(rdD M x).map (zfh 0)) J->R J H')->
      wpAny (model X.prog X.w) X.A (eval (.Call (.Name "enumerate" p) [a] [] pos) X.env) (fun v s1=>wpAny (model X.prog X.w) X.A (pyIter v) (PIE X pins σ (.Tuple elts kk tp) R) X.xe s1) X.xe s:=fun hx q=>by
    refine Call_ (zhg I hg hm boot_enumerate (PyProof.Rows.callWith_type1 (thn (zdb ha zfm hs pos pins s σ H (fun vs H1=>∃ v μ1,vs=[v] /\ Ext μ H μ1 H1 /\ RelM fa X.K μ1 H1 M1 /\ Rep fa X.K μ1 H1 x v) I ⟨μ,ρ,M,hE,hM,?_⟩) fun us s1 ⟨vs,H1,I1,r1,v,μ1,ev,x1,m1,rv⟩=>?_) hs rfl))
    · rw [e];exact fun v H1 μ1 x1 m1 r1=>⟨v,μ1,rfl,x1,m1,r1⟩
    subst ev
    obtain ⟨ds,er⟩:=hx μ1 H1 m1 v rv
    obtain ⟨ad,vs,rfl,s1',r⟩:=zcf m1 rv er
    cases r1 with
    | cons r1 rr =>
      cases rr
      obtain rfl:=r1
      obtain ⟨its,rvs,pl,hz⟩:=I1.list s1'
      refine call_enumerate_list pl.isList fun h1 he hit hsz hk=>?_
      have I2:Inv X pins σ H1 {s1 with heap:=h1}:=I1.kept (t':=s1.toks) hk
      refine wpAny_pyIter_enum (s:={s1 with heap:=h1}) he ?_
      refine ⟨s1.heap.objs.size+1,[s1.heap.objs.size+1,s1.heap.objs.size],_,_,H1,rfl,I2,zuv ad s1.heap.objs.size (s1.heap.objs.size+1) (Nat.succ_ne_self _),⟨⟨.none,he⟩,hit⟩,fun b hb=>?_,q _ H1 μ1 x1 m1 (zur rv)⟩
      have hb:s1.heap.objs.size≤b:=by
        rcases List.mem_cons.mp hb with z | z
        · subst z;exact Nat.le_succ _
        · have e:b=s1.heap.objs.size:=by simpa using z
          subst e;exact Nat.le_refl _
      exact I1.fpOk hb (I1.hok.fresh hb)
  cases x with
  | lst ds=>exact key (fun _ _ _ _ _=>⟨ds,rfl⟩) q
  | frz ds=>exact key (fun _ _ _ _ _=>⟨ds,rfl⟩) q
  | cell k=>exact key (fun μ' H' m' v ⟨ad,_,hk⟩=>let ⟨ds,_,e,_⟩:=m'.mu_lt hk;⟨ds,e⟩) q
  | _=>exact q.elim
end
end LD
namespace LD
open PySem PySem.Spec PyProof.Rows L2
def zci:Bool->Heap->Addr->Array Value->Prop
  | true,h,a,its=>h.IsList a its
  | false,h,a,its=>h.IsTuple a its
def zcw:Bool->Heap->Addr->Addr->Nat->Prop
  | true,h,it,a,i=>h.IsListIter it a i
  | false,h,it,a,i=>h.IsTupleIter it a i
theorem zci.extBut {b:Bool}{h h':Heap}{a c:Addr}{its:Array Value} (x:zci b h a its) (hs:Heap.ExtBut c h h') (n:a≠c):zci b h' a its:=by
  cases b<;>(obtain ⟨o,ho,r⟩:=x;exact ⟨o,hs a o n ho,r⟩)
theorem zcw.extBut {b:Bool}{h h':Heap}{it a c:Addr}{i:Nat} (x:zcw b h it a i) (hs:Heap.ExtBut c h h') (n:it≠c):zcw b h' it a i:=by
  cases b<;>(obtain ⟨o,ho,r⟩:=x;exact ⟨o,hs it o n ho,r⟩)
theorem zcw.at {b:Bool}{h h':Heap}{it a:Addr}{i:Nat} (x:zcw b h it a i) (k:∀ o,h.get? it=some o->h'.get? it=some o):zcw b h' it a i:=by
  cases b<;>(obtain ⟨o,ho,r⟩:=x;exact ⟨o,k o ho,r⟩)
theorem zcw.obj {b:Bool}{h:Heap}{it a:Addr}{i:Nat} (x:zcw b h it a i):∃ o,h.get? it=some o /\ ∀ v,o.data≠.cell v:=by
  cases b<;>(obtain ⟨o,ho,c,d⟩:=x;exact ⟨o,ho,fun v z=>by rw [d] at z;cases z⟩)
section
variable {prog:Program}{w:World}{A:Around}{E:Value->Shared->Prop}{s:Shared}
theorem zb8 {a b:Nat} (h:a≠b):@Ne Addr a b:=h
theorem zpp {T:Addr}{its:Array Value}{k:Nat}{x:Value}{Q:Unit->Shared->Prop} (hT:s.heap.get? T=some {cls:=.type "tuple",data:=.seq its}) (hz:its.size≤64)
    (h:∀ h',h'.get? T=some {cls:=.type "tuple",data:=.seq (its.setIfInBounds k x)}->Heap.SameBut T s.heap h'->Q () {s with heap:=h'}) :
    wpAny (model prog w) A (updateSeq T (·.setIfInBounds k x)) Q E s:=by
  refine wpAny_updateSeq hT rfl (h _ ?_ (Heap.SameBut.update ..)) (Nat.le_trans hz (by decide)) (by rw [Array.size_setIfInBounds];exact Nat.le_trans hz (by decide))
  rw [Heap.get?_update_self _ hT rfl]
  simp [Obj.mapSeq]
theorem ziu {b:Bool}{it a:Addr}{i:Nat}{its:Array Value}{x:Value}{Q:Value->Shared->Prop} (hit:zcw b s.heap it a i) (hl:zci b s.heap a its) (hx:its[i]?=some x)
    (hQ:∀ h',zcw b h' it a (i+1)->Heap.SameBut it s.heap h'->Q x {s with heap:=h'}):wpAny (model prog w) A (Builtin.SmallTypes.nextOf (.ref it)) Q E s:=by
  cases b with
  | true=>exact wpAny_nextOf_list_item hit hl hx hQ
  | false =>
    have hit:s.heap.IsTupleIter it a i:=hit
    obtain ⟨o,ho,hc,hd⟩:=id hit
    obtain ⟨ol,hol,_,nl,hdl⟩:=hl
    unfold Builtin.SmallTypes.nextOf
    refine wpAny_bind (wpAny_callSpecial?_slot (name:=Str.ofString "__next__") hit.typeIs F.slot_tuple_iterator_next
      (wpAny_call_entry F.slot_tuple_iterator_next hit.typeIs F.entry_tuple_iterator_next ?_ (F.args_tuple_iterator_next_1 _)))
    show wpAny _ _ (field (.ref it) 0 >>= _) _ _ s
    refine wpAny_bind (wpAny_field ho hd (x:=.ref a) rfl ?_)
    show wpAny _ _ (if (Value.ref a==Value.none)=true then _ else _) _ _ s
    rw [if_neg (show ¬ ((Value.ref a==Value.none)=true) from Bool.false_ne_true)]
    show wpAny _ _ (field (.ref it) 1 >>= _) _ _ s
    refine wpAny_bind (wpAny_field ho hd (x:=.int i 0) rfl ?_)
    show wpAny _ _ (seqItems? (.ref a) >>= _) _ _ s
    refine wpAny_bind (wpAny_seqItems hol hdl ?_)
    simp only [Int.toNat_natCast,hx]
    refine wpAny_bind (wpAny_setField ho hd (by simp) (wpAny_pure ⟨x,rfl,wpAny_pure (hQ _ ?_ (Heap.SameBut.update ..))⟩))
    exact ⟨_,Heap.get?_update_self _ ho (Obj.isFreed_of_fields (Obj.data_mapFields hd _)),(Obj.cls_mapFields ..).trans hc,by
      rw [Obj.data_mapFields hd];simp [rawInt]⟩
theorem zmh {b:Bool}{it a:Addr}{i:Nat}{its:Array Value}{Q:Value->Shared->Prop} (hh:A.handled=none) (hit:zcw b s.heap it a i) (hl:zci b s.heap a its) (hx:its[i]?=none)
    (hE:∀ h' e,Heap.ExtBut it s.heap h'->(∃ o,h'.get? e=some o /\ o.cls=.type "StopIteration")->E (.ref e) {s with heap:=h'}):wpAny (model prog w) A (Builtin.SmallTypes.nextOf (.ref it)) Q E s:=by
  cases b with
  | true=>exact wpAny_nextOf_list_end hh hit hl hx hE
  | false =>
    have hit:s.heap.IsTupleIter it a i:=hit
    obtain ⟨o,ho,hc,hd⟩:=id hit
    obtain ⟨ol,hol,_,nl,hdl⟩:=hl
    unfold Builtin.SmallTypes.nextOf
    refine wpAny_bind (wpAny_callSpecial?_slot (name:=Str.ofString "__next__") hit.typeIs F.slot_tuple_iterator_next
      (wpAny_call_entry F.slot_tuple_iterator_next hit.typeIs F.entry_tuple_iterator_next ?_ (F.args_tuple_iterator_next_1 _)))
    show wpAny _ _ (field (.ref it) 0 >>= _) _ _ s
    refine wpAny_bind (wpAny_field ho hd (x:=.ref a) rfl ?_)
    show wpAny _ _ (if (Value.ref a==Value.none)=true then _ else _) _ _ s
    rw [if_neg (show ¬ ((Value.ref a==Value.none)=true) from Bool.false_ne_true)]
    show wpAny _ _ (field (.ref it) 1 >>= _) _ _ s
    refine wpAny_bind (wpAny_field ho hd (x:=.int i 0) rfl ?_)
    show wpAny _ _ (seqItems? (.ref a) >>= _) _ _ s
    refine wpAny_bind (wpAny_seqItems hol hdl ?_)
    simp only [Int.toNat_natCast,hx]
    refine wpAny_bind (wpAny_rule (wpAny_bind (wpAny_setField ho hd (by simp) ?_)))
    show wpAny _ _ (newExc (.type "StopIteration") [] >>= _) _ _ _
    refine wpAny_bind ?_
    simp only [newExc,newTuple]
    refine wpAny_bind (wpAny_newObj_type ?_ (by size_fits))
    refine wpAny_bind (m:=firstArgMember _ _) (wpAny_of_eq (a:=Value.none) (by first | rfl | (simp only [firstArgMember];rfl)) ?_)
    refine wpAny_newObj_type ?_ (by size_fits)
    simp only [raiseNew]
    refine wpAny_bind (wpAny_handled ?_)
    first | rw [show A.in1.handled=none from hh] | rw [hh]
    refine wpAny_bind (wpAny_pure (wpAny_throw ?_))
    exact hE _ _ (((Heap.SameBut.update ..).extBut.push _).push _) ⟨_,Heap.get?_push_size _ rfl,rfl⟩
theorem zuj {n i:Nat}{a0 a1:Nat}{b0 b1:Bool}{xs0 xs1:Array Value}{x0 x1 u0 u1:Value}{Q:Value->Shared->Prop} (hn:a0 < n /\ a1 < n)
    (hz:IsZip s.heap (n+4) (n+2) (n+3) .none) (hTI:s.heap.get? (n+2)=some {cls:=.type "tuple",data:=.seq #[.ref n,.ref (n+1)]}) (hTO:s.heap.get? (n+3)=some {cls:=.type "tuple",data:=.seq #[u0,u1]})
    (i0:zcw b0 s.heap n a0 i) (i1:zcw b1 s.heap (n+1) a1 i) (q0:zci b0 s.heap a0 xs0) (q1:zci b1 s.heap a1 xs1)
    (e0:xs0[i]?=some x0) (e1:xs1[i]?=some x1)
    (hQ:∀ h',IsZip h' (n+4) (n+2) (n+3) (rawInt s.heap.objs.size)->h'.get? (n+3)=some {cls:=.type "tuple",data:=.seq #[x0,x1]}->zcw b0 h' n a0 (i+1)->zcw b1 h' (n+1) a1 (i+1)->h'.get? s.heap.objs.size=some {cls:=.type "tuple",data:=.seq #[x0,x1]}->h'.objs.size=s.heap.objs.size+1->
      (∀ c o,c∉[n,(n+1),(n+3),(n+4)]->s.heap.get? c=some o->h'.get? c=some o)->Q (.ref s.heap.objs.size) {s with heap:=h'}) :
    wpAny (model prog w) A (Builtin.«zip.__next__» ⟨[.ref (n+4)],[]⟩) (fun fin s'=>∃ v,fin=.done (.ret v) /\ Q v s') E s:=by
  obtain ⟨l0,l1⟩:=hn
  show wpAny _ _ (field (.ref (n+4)) 2 >>= _) _ _ _
  refine wpAny_bind (wpAny_field hz rfl (x:=.bool false) rfl ?_)
  show wpAny _ _ (field (.ref (n+4)) 3 >>= _) _ _ _
  refine wpAny_bind (wpAny_field hz rfl (x:=.ref (n+2)) rfl ?_)
  refine wpAny_bind (wpAny_seqItems hTI rfl ?_)
  show wpAny _ _ (Builtin.SmallTypes.ownedTupleIsFree (.ref (n+4)) >>= _) _ _ _
  refine wpAny_bind ?_
  unfold Builtin.SmallTypes.ownedTupleIsFree
  refine wpAny_bind (wpAny_field hz rfl (x:=.none) rfl (wpAny_pure ?_))
  simp only [if_true]
  refine wpAny_bind (wpAny_rule ?_)
  refine wpAny_bind (wpAny_field hz rfl (x:=.ref (n+3)) rfl ?_)
  refine wpAny_bind (wpAny_setField_rec hz (by simp) fun h0 hz0 hs0=>?_)
  replace hz0:IsZip h0 (n+4) (n+2) (n+3) .ellipsis:=hz0
  have k0:∀ c o,c∉[n,(n+1),(n+3),(n+4)]->s.heap.get? c=some o->h0.get? c=some o:=fun c o hc e=>hs0.extBut _ _ (fun z=>hc (by rw [z];simp)) e
  have hTO0:h0.get? (n+3)=some {cls:=.type "tuple",data:=.seq #[u0,u1]}:=hs0.extBut _ _ (zb8 (by omega)) hTO
  have hsz0:h0.objs.size=s.heap.objs.size:=hs0.1
  refine wpAny_bind ?_
  simp only [List.zipIdx_cons,List.zipIdx_nil,List.forIn_cons,List.forIn_nil]
  have j0_0:zcw b0 h0 n a0 i:=i0.extBut hs0.extBut (zb8 (by omega))
  have p0_0:zci b0 h0 a0 xs0:=q0.extBut hs0.extBut (zb8 (by omega))
  have j1_0:zcw b1 h0 (n+1) a1 i:=i1.extBut hs0.extBut (zb8 (by omega))
  have p1_0:zci b1 h0 a1 xs1:=q1.extBut hs0.extBut (zb8 (by omega))
  refine wpAny_bind (wpAny_bind (wpAny_onRaise ?_))
  show wpAny _ _ (Builtin.SmallTypes.nextOf (.ref n) >>= _) _ _ _
  refine wpAny_bind (ziu j0_0 p0_0 e0 fun h1 j0_1 hs1=>wpAny_pure ?_)
  have hTO1:h1.get? (n+3)=some {cls:=.type "tuple",data:=.seq #[u0,u1]}:=hs1.extBut _ _ (zb8 (by omega)) hTO0
  refine wpAny_bind (wpAny_seqItems hTO1 rfl ?_)
  refine wpAny_bind (zpp hTO1 (by simp) fun h2 hTO2 hs2=>?_)
  replace hTO2:h2.get? (n+3)=some {cls:=.type "tuple",data:=.seq #[x0,u1]}:=hTO2
  have hz2:IsZip h2 (n+4) (n+2) (n+3) .ellipsis:=hs2.extBut _ _ (zb8 (by omega)) (hs1.extBut _ _ (zb8 (by omega)) hz0)
  have k2:∀ c o,c∉[n,(n+1),(n+3),(n+4)]->s.heap.get? c=some o->h2.get? c=some o:=fun c o hc e=>hs2.extBut _ _ (fun z=>hc (by rw [z];simp)) (hs1.extBut _ _ (fun z=>hc (by rw [z];simp)) (k0 c o hc e))
  have hsz2:h2.objs.size=s.heap.objs.size:=by rw [hs2.1,hs1.1,hsz0]
  have j0_2:zcw b0 h2 n a0 (i+1):=j0_1.extBut hs2.extBut (zb8 (by omega))
  have p0_2:zci b0 h2 a0 xs0:=(p0_0.extBut hs1.extBut (zb8 (by omega))).extBut hs2.extBut (zb8 (by omega))
  have j1_2:zcw b1 h2 (n+1) a1 i:=(j1_0.extBut hs1.extBut (zb8 (by omega))).extBut hs2.extBut (zb8 (by omega))
  have p1_2:zci b1 h2 a1 xs1:=(p1_0.extBut hs1.extBut (zb8 (by omega))).extBut hs2.extBut (zb8 (by omega))
  refine wpAny_bind (wpAny_letGo (wpAny_pure ?_))
  refine wpAny_bind (wpAny_bind (wpAny_onRaise ?_))
  show wpAny _ _ (Builtin.SmallTypes.nextOf (.ref (n+1)) >>= _) _ _ _
  refine wpAny_bind (ziu j1_2 p1_2 e1 fun h3 j1_3 hs3=>wpAny_pure ?_)
  have hTO3:h3.get? (n+3)=some {cls:=.type "tuple",data:=.seq #[x0,u1]}:=hs3.extBut _ _ (zb8 (by omega)) hTO2
  refine wpAny_bind (wpAny_seqItems hTO3 rfl ?_)
  refine wpAny_bind (zpp hTO3 (by simp) fun h4 hTO4 hs4=>?_)
  replace hTO4:h4.get? (n+3)=some {cls:=.type "tuple",data:=.seq #[x0,x1]}:=hTO4
  have hz4:IsZip h4 (n+4) (n+2) (n+3) .ellipsis:=hs4.extBut _ _ (zb8 (by omega)) (hs3.extBut _ _ (zb8 (by omega)) hz2)
  have k4:∀ c o,c∉[n,(n+1),(n+3),(n+4)]->s.heap.get? c=some o->h4.get? c=some o:=fun c o hc e=>hs4.extBut _ _ (fun z=>hc (by rw [z];simp)) (hs3.extBut _ _ (fun z=>hc (by rw [z];simp)) (k2 c o hc e))
  have hsz4:h4.objs.size=s.heap.objs.size:=by rw [hs4.1,hs3.1,hsz2]
  have j0_4:zcw b0 h4 n a0 (i+1):=(j0_2.extBut hs3.extBut (zb8 (by omega))).extBut hs4.extBut (zb8 (by omega))
  have p0_4:zci b0 h4 a0 xs0:=(p0_2.extBut hs3.extBut (zb8 (by omega))).extBut hs4.extBut (zb8 (by omega))
  have j1_4:zcw b1 h4 (n+1) a1 (i+1):=j1_3.extBut hs4.extBut (zb8 (by omega))
  have p1_4:zci b1 h4 a1 xs1:=(p1_2.extBut hs3.extBut (zb8 (by omega))).extBut hs4.extBut (zb8 (by omega))
  refine wpAny_bind (wpAny_letGo (wpAny_pure (wpAny_pure ?_)))
  refine wpAny_bind (wpAny_seqItems hTO4 rfl ?_)
  refine wpAny_bind (wpAny_newTuple ?_)
  have hzlt:(n+4) < h4.objs.size:=Heap.lt_size hz4
  show wpAny _ _ (Builtin.SmallTypes.ownedTupleHandOut (.ref (n+4)) (.ref h4.objs.size) >>= _) _ _ _
  refine wpAny_bind ?_
  unfold Builtin.SmallTypes.ownedTupleHandOut
  have hz6:IsZip (h4.push {cls:=.type "tuple",data:=.seq #[x0,x1]}) (n+4) (n+2) (n+3) .ellipsis:=Heap.get?_push_of_some _ hz4
  refine wpAny_bind (wpAny_setField_rec hz6 (by simp) fun h7 hz7 hs7=>?_)
  replace hz7:IsZip h7 (n+4) (n+2) (n+3) (rawInt h4.objs.size):=hz7
  refine wpAny_setField_rec hz7 (by simp) fun h8 hz8 hs8=>?_
  replace hz8:IsZip h8 (n+4) (n+2) (n+3) (rawInt h4.objs.size):=hz8
  have up:∀ c o,c≠(n+4)->h4.get? c=some o->h8.get? c=some o:=fun c o c1 e=>hs8.extBut _ _ c1 (hs7.extBut _ _ c1 (Heap.get?_push_of_some _ e))
  have hT8:h8.get? h4.objs.size=some {cls:=.type "tuple",data:=.seq #[x0,x1]}:=hs8.extBut _ _ (Nat.ne_of_gt hzlt) (hs7.extBut _ _ (Nat.ne_of_gt hzlt) (Heap.get?_push_size _ rfl))
  have hzz:h8.objs.size=h4.objs.size+1:=by rw [hs8.1,hs7.1,Heap.size_push]
  rw [hsz4] at hz8 hT8 hzz
  refine wpAny_pure ⟨_,rfl,?_⟩
  show Q (.ref h4.objs.size) _
  rw [hsz4]
  exact hQ h8 hz8 (up _ _ (zb8 (by omega)) hTO4) (j0_4.at fun o e=>up _ o (zb8 (by omega)) e) (j1_4.at fun o e=>up _ o (zb8 (by omega)) e) hT8 hzz fun c o hc e=>up c o (fun z=>hc (by rw [z];simp)) (k4 c o hc e)
theorem zww {n i:Nat}{a0 a1:Nat}{b0 b1:Bool}{xs0 xs1:Array Value}{u0 u1:Value}{Q:Fin->Shared->Prop} (hh:A.handled=none) (hn:a0 < n /\ a1 < n)
    (hz:IsZip s.heap (n+4) (n+2) (n+3) .none) (hTI:s.heap.get? (n+2)=some {cls:=.type "tuple",data:=.seq #[.ref n,.ref (n+1)]}) (hTO:s.heap.get? (n+3)=some {cls:=.type "tuple",data:=.seq #[u0,u1]})
    (i0:zcw b0 s.heap n a0 i) (i1:zcw b1 s.heap (n+1) a1 i) (q0:zci b0 s.heap a0 xs0) (q1:zci b1 s.heap a1 xs1)
    (hend:xs0[i]?=none \/ xs1[i]?=none)
    (hE:∀ h' e,(∀ c o,c∉[n,(n+1),(n+3),(n+4)]->s.heap.get? c=some o->h'.get? c=some o)->(∃ o,h'.get? e=some o /\ o.cls=.type "StopIteration")->E (.ref e) {s with heap:=h'}) :
    wpAny (model prog w) A (Builtin.«zip.__next__» ⟨[.ref (n+4)],[]⟩) Q E s:=by
  obtain ⟨l0,l1⟩:=hn
  show wpAny _ _ (field (.ref (n+4)) 2 >>= _) _ _ _
  refine wpAny_bind (wpAny_field hz rfl (x:=.bool false) rfl ?_)
  show wpAny _ _ (field (.ref (n+4)) 3 >>= _) _ _ _
  refine wpAny_bind (wpAny_field hz rfl (x:=.ref (n+2)) rfl ?_)
  refine wpAny_bind (wpAny_seqItems hTI rfl ?_)
  show wpAny _ _ (Builtin.SmallTypes.ownedTupleIsFree (.ref (n+4)) >>= _) _ _ _
  refine wpAny_bind ?_
  unfold Builtin.SmallTypes.ownedTupleIsFree
  refine wpAny_bind (wpAny_field hz rfl (x:=.none) rfl (wpAny_pure ?_))
  simp only [if_true]
  refine wpAny_bind (wpAny_rule ?_)
  refine wpAny_bind (wpAny_field hz rfl (x:=.ref (n+3)) rfl ?_)
  refine wpAny_bind (wpAny_setField_rec hz (by simp) fun h0 hz0 hs0=>?_)
  replace hz0:IsZip h0 (n+4) (n+2) (n+3) .ellipsis:=hz0
  have k0:∀ c o,c∉[n,(n+1),(n+3),(n+4)]->s.heap.get? c=some o->h0.get? c=some o:=fun c o hc e=>hs0.extBut _ _ (fun z=>hc (by rw [z];simp)) e
  have hTO0:h0.get? (n+3)=some {cls:=.type "tuple",data:=.seq #[u0,u1]}:=hs0.extBut _ _ (zb8 (by omega)) hTO
  refine wpAny_bind ?_
  simp only [List.zipIdx_cons,List.zipIdx_nil,List.forIn_cons,List.forIn_nil]
  have j0_0:zcw b0 h0 n a0 i:=i0.extBut hs0.extBut (zb8 (by omega))
  have p0_0:zci b0 h0 a0 xs0:=q0.extBut hs0.extBut (zb8 (by omega))
  have j1_0:zcw b1 h0 (n+1) a1 i:=i1.extBut hs0.extBut (zb8 (by omega))
  have p1_0:zci b1 h0 a1 xs1:=q1.extBut hs0.extBut (zb8 (by omega))
  refine wpAny_bind (wpAny_bind (wpAny_onRaise ?_))
  show wpAny _ _ (Builtin.SmallTypes.nextOf (.ref n) >>= _) _ _ _
  cases e0:xs0[i]? with
  | none =>
    refine wpAny_bind (zmh hh j0_0 p0_0 e0 fun h1 e hs1 he=>?_)
    obtain ⟨oe,hoe,hce⟩:=he
    have hz1:IsZip h1 (n+4) (n+2) (n+3) .ellipsis:=hs1 _ _ (zb8 (by omega)) hz0
    have hez:e≠(n+4):=fun x=>by subst x;rw [hz1] at hoe;cases hoe;simp at hce
    exact wpAny_setField_rec hz1 (by simp) fun h2 _ hs2=>hE h2 e (fun c o hc x=>hs2.extBut _ _ (fun z=>hc (by rw [z];simp)) (hs1 _ _ (fun z=>hc (by rw [z];simp)) (k0 c o hc x))) ⟨oe,hs2.extBut _ _ hez hoe,hce⟩
  | some x0 =>
    refine wpAny_bind (ziu j0_0 p0_0 e0 fun h1 j0_1 hs1=>wpAny_pure ?_)
    have hTO1:h1.get? (n+3)=some {cls:=.type "tuple",data:=.seq #[u0,u1]}:=hs1.extBut _ _ (zb8 (by omega)) hTO0
    refine wpAny_bind (wpAny_seqItems hTO1 rfl ?_)
    refine wpAny_bind (zpp hTO1 (by simp) fun h2 hTO2 hs2=>?_)
    replace hTO2:h2.get? (n+3)=some {cls:=.type "tuple",data:=.seq #[x0,u1]}:=hTO2
    have hz2:IsZip h2 (n+4) (n+2) (n+3) .ellipsis:=hs2.extBut _ _ (zb8 (by omega)) (hs1.extBut _ _ (zb8 (by omega)) hz0)
    have k2:∀ c o,c∉[n,(n+1),(n+3),(n+4)]->s.heap.get? c=some o->h2.get? c=some o:=fun c o hc e=>hs2.extBut _ _ (fun z=>hc (by rw [z];simp)) (hs1.extBut _ _ (fun z=>hc (by rw [z];simp)) (k0 c o hc e))
    have j1_2:zcw b1 h2 (n+1) a1 i:=(j1_0.extBut hs1.extBut (zb8 (by omega))).extBut hs2.extBut (zb8 (by omega))
    have p1_2:zci b1 h2 a1 xs1:=(p1_0.extBut hs1.extBut (zb8 (by omega))).extBut hs2.extBut (zb8 (by omega))
    refine wpAny_bind (wpAny_letGo (wpAny_pure ?_))
    refine wpAny_bind (wpAny_bind (wpAny_onRaise ?_))
    show wpAny _ _ (Builtin.SmallTypes.nextOf (.ref (n+1)) >>= _) _ _ _
    cases e1:xs1[i]? with
    | none =>
      refine wpAny_bind (zmh hh j1_2 p1_2 e1 fun h3 e hs3 he=>?_)
      obtain ⟨oe,hoe,hce⟩:=he
      have hz3:IsZip h3 (n+4) (n+2) (n+3) .ellipsis:=hs3 _ _ (zb8 (by omega)) hz2
      have hez:e≠(n+4):=fun x=>by subst x;rw [hz3] at hoe;cases hoe;simp at hce
      exact wpAny_setField_rec hz3 (by simp) fun h4 _ hs4=>hE h4 e (fun c o hc x=>hs4.extBut _ _ (fun z=>hc (by rw [z];simp)) (hs3 _ _ (fun z=>hc (by rw [z];simp)) (k2 c o hc x))) ⟨oe,hs4.extBut _ _ hez hoe,hce⟩
    | some x1 =>
      exfalso
      rcases hend with h | h
      · rw [e0] at h;cases h
      · rw [e1] at h;cases h
end
end LD
namespace LD
open PySem PySem.Spec PyProof.Rows L2
def SqB (K:PySem.W.Frag) (H:Hp):Bool->Addr->List V->Prop
  | true,a,xs=>SqL K H a xs
  | false,a,xs=>SqT K H a xs
def zha:D->Bool
  | .tup _=>false
  | _=>true
def zeh:D->Bool
  | .tup _=>true
  | .lst _=>true
  | .frz _=>true
  | .cell _=>true
  | _=>false
theorem zi4 {X:Cx}{pins:List (Addr×Obj)}{σ:L2.St}{H:Hp}{s:Shared}{b:Bool}{a:Addr}{xs:List V} (I:Inv X pins σ H s) (h:SqB X.K H b a xs):∃ its:List Value,Vals xs its /\ zci b s.heap a its.toArray:=by
  cases b with
  | true=>obtain ⟨its,r,p,_⟩:=I.list h;exact ⟨its,r,p.isList⟩
  | false=>obtain ⟨its,r,p,_⟩:=I.tuple h;exact ⟨its,r,p⟩
theorem zp1 {X:Cx}{pins:List (Addr×Obj)}{σ:L2.St}{H:Hp}{s:Shared}{b:Bool}{a:Addr}{xs ys:List V} (I:Inv X pins σ H s) (h:SqB X.K H b a xs) (h':SqB X.K H b a ys):xs=ys:=by
  cases b with
  | true=>exact I.list_inj h h'
  | false=>exact I.tuple_inj h h'
theorem zk8 {fa:Fa}{X:Cx}{μ:Mu}{H:Hp}{M:Mem}{d:D}{a:Addr}{ds:List D} (hM:RelM fa X.K μ H M) (h:Rep fa X.K μ H d (.ref a)) (e:zcn M d=some ds):∃ vs,SqB X.K H (zha d) a vs /\ za3 fa X.K μ H ds vs:=by
  cases d with
  | tup xs=>cases e;obtain ⟨a',vs,e,s,r⟩:=h;cases e;exact ⟨vs,s,r⟩
  | lst xs=>obtain ⟨a',vs,e',s,r⟩:=zcf hM h (show rdD M (.lst xs)=some ds from e);cases e';exact ⟨vs,s,r⟩
  | frz xs=>obtain ⟨a',vs,e',s,r⟩:=zcf hM h (show rdD M (.frz xs)=some ds from e);cases e';exact ⟨vs,s,r⟩
  | cell k=>obtain ⟨a',vs,e',s,r⟩:=zcf hM h (show rdD M (.cell k)=some ds from e);cases e';exact ⟨vs,s,r⟩
  | _=>cases e
theorem zp0 {fa:Fa}{X:Cx}{pins:List (Addr×Obj)}{σ:L2.St}{μ:Mu}{H:Hp}{s:Shared}{M:Mem}{d:D}{v:V} (I:Inv X pins σ H s) (hM:RelM fa X.K μ H M) (h:Rep fa X.K μ H d v) (e:zeh d=true):∃ (a:Nat) (its:Array Value),v=.ref a /\ zci (zha d) s.heap a its:=by
  have key:∀ ds,zcn M d=some ds->∃ (a:Nat) (its:Array Value),v=.ref a /\ zci (zha d) s.heap a its:=fun ds z=>by
    obtain ⟨a,vs,rfl,_,_⟩:=zia hM h z
    obtain ⟨vs,s1,_⟩:=zk8 hM h z
    obtain ⟨its,_,p⟩:=zi4 I s1
    exact ⟨a,its.toArray,rfl,p⟩
  cases d with
  | tup xs=>exact key xs rfl
  | lst xs=>exact key xs rfl
  | frz xs=>exact key xs rfl
  | cell k =>
    obtain ⟨a,e,hk⟩:=id h
    obtain ⟨ds,_,z,_⟩:=hM.mu_lt hk
    exact key ds z
  | _=>cases e
theorem zci.lt {b:Bool}{h:Heap}{a:Addr}{its:Array Value} (x:zci b h a its):a < h.objs.size:=by
  cases b<;>(obtain ⟨o,ho,r⟩:=x;exact Heap.lt_size ho)
theorem zci.push {b:Bool}{h:Heap}{a:Addr}{its:Array Value} (x:zci b h a its) (ob:Obj):zci b (h.push ob) a its:=by
  cases b<;>(obtain ⟨o,ho,r⟩:=x;exact ⟨o,Heap.get?_push_of_some _ ho,r⟩)
def zpd (b:Bool) (a:Addr):Obj:={cls:=.type (if b then "list_iterator" else "tuple_iterator"),data:=.fields #[.ref a,.int 0 0]}
theorem zcw.new {b:Bool}{h:Heap}{it a:Addr} (e:h.get? it=some (zpd b a)):zcw b h it a 0:=by
  cases b<;>exact ⟨_,e,rfl,rfl⟩
theorem zl3 {prog:Program}{w:World}{A:Around}{E:Value->Shared->Prop}{s:Shared}{b:Bool}{a:Addr}{its:Array Value}{Q:Value->Shared->Prop} (h:zci b s.heap a its) (hQ:Q (.ref s.heap.objs.size) {s with heap:=s.heap.push (zpd b a)}):wpAny (model prog w) A (pyIter (.ref a)) Q E s:=by
  cases b with
  | true=>exact wpAny_pyIter_list h hQ
  | false=>exact wpAny_pyIter_tuple h hQ
def Itz2 (K:PySem.W.Frag) (b0:Bool) (a0:Nat) (b1:Bool) (a1:Nat):It:=
  ⟨fun i H=>(∃ xs x,SqB K H b0 a0 xs /\ xs[i]?=some x) /\ (∃ xs x,SqB K H b1 a1 xs /\ xs[i]?=some x),
   fun i H v H'=>∃ p x0 x1,H p=none /\ v=.ref p /\ H'=upd H p (.tup [x0,x1]) /\ (∀ xs,SqB K H b0 a0 xs->xs[i]?=some x0) /\ (∀ xs,SqB K H b1 a1 xs->xs[i]?=some x1),
   fun i H=>∃ xs0 xs1,SqB K H b0 a0 xs0 /\ SqB K H b1 a1 xs1 /\ (xs0.length≤i \/ xs1.length≤i)⟩
def zki (n:Nat) (b0:Bool) (a0:Nat) (b1:Bool) (a1:Nat) (i:Nat) (h:Heap) (f0:Value):Prop:=IsZip h (n+4) (n+2) (n+3) f0 /\ h.get? (n+2)=some {cls:=.type "tuple",data:=.seq #[.ref n,.ref (n+1)]} /\ (∃ u0 u1,h.get? (n+3)=some {cls:=.type "tuple",data:=.seq #[u0,u1]}) /\ zcw b0 h n a0 i /\ zcw b1 h (n+1) a1 i
theorem zki.keep {n i:Nat}{a0 a1:Nat}{b0 b1:Bool}{h h':Heap}{f0:Value} (x:zki n b0 a0 b1 a1 i h f0) (k:∀ b∈[(n+4),n,(n+1),(n+2),(n+3)],∀ o,h.get? b=some o->h'.get? b=some o):zki n b0 a0 b1 a1 i h' f0:=by
  obtain ⟨h1,h2,⟨u0,u1,h3⟩,j0,j1⟩:=x
  exact ⟨k _ (by simp) _ h1,k _ (by simp) _ h2,⟨u0,u1,k _ (by simp) _ h3⟩,j0.at fun o e=>k _ (by simp) o e,j1.at fun o e=>k _ (by simp) o e⟩
theorem zut {P:Program}{w:World}{K:PySem.W.Frag}{elts:List PySem.Expr}{kk:Nat}{pos:Pos} (n:Nat) (b0:Bool) (a0:Nat) (b1:Bool) (a1:Nat) (hn:a0 < n /\ a1 < n) :
    Turn P w K (.Tuple elts kk pos) (Itz2 K b0 a0 b1 a1) [(n+4),n,(n+1),(n+2),(n+3)] (n+4) (fun i h=>zki n b0 a0 b1 a1 i h .none) where
  mem:=by simp
  obj:=fun i h ⟨h1,h2,⟨u0,u1,h3⟩,j0,j1⟩ b hb=>by
    simp only [List.mem_cons,List.not_mem_nil,or_false] at hb
    rcases hb with z | z | z | z | z
    · subst z;exact ⟨_,h1,fun v z=>by cases z⟩
    · subst z;exact j0.obj
    · subst z;exact j1.obj
    · subst z;exact ⟨_,h2,fun v z=>by cases z⟩
    · subst z;exact ⟨_,h3,fun v z=>by cases z⟩
  keep:=fun i h h' st k=>st.keep k
  item:=by
    intro X hP hw hK hc i pins s σ H E I hf st hg
    subst hP hw hK
    obtain ⟨⟨xs0,x0,hq0,hx0⟩,⟨xs1,x1,hq1,hx1⟩⟩:=hg
    obtain ⟨h1,h2,⟨u0,u1,h3⟩,j0,j1⟩:=st
    obtain ⟨its0,rv0,p0⟩:=zi4 I hq0
    obtain ⟨w0,hw0,rw0⟩:=rv0.get hx0
    obtain ⟨its1,rv1,p1⟩:=zi4 I hq1
    obtain ⟨w1,hw1,rw1⟩:=rv1.get hx1
    have hT:s.TypeIs (.ref (n+4)) "zip":=⟨_,h1,rfl⟩
    unfold pyNext
    refine wpAny_bind (wpAny_attempt (wpAny_callSpecial?_slot (name:=Str.ofString "__next__") hT F.slot_zip_next
      (wpAny_call_entry F.slot_zip_next hT F.entry_zip_next
        (zuj (E:=_) hn h1 h2 h3 j0 j1 p0 p1 (x0:=w0) (by simpa using hw0) (x1:=w1) (by simpa using hw1) fun h4 z1 z2 g0 g1 hTT hsz hk=>wpAny_pure ⟨_,rfl,?_⟩) (F.args_zip_next_1 _))))
    have hT0:H s.heap.objs.size=none:=I.hok.fresh (Nat.le_refl _)
    have zlt:(n+4) < s.heap.objs.size:=Heap.lt_size h1
    refine wpAny_letOwnedTupleGo_zip (s:={s with heap:=h4}) z1 fun h5 hz5 hs5=>?_
    have hT5:h5.get? s.heap.objs.size=some {cls:=.type "tuple",data:=.seq #[w0,w1]}:=(hs5.2 _ (Nat.ne_of_gt zlt)).trans hTT
    refine ⟨.ref s.heap.objs.size,upd H s.heap.objs.size (.tup [x0,x1]),zn3 (s:=s) (t':=s.toks) I hf (fun b o hb q=>(hs5.2 b (fun z=>hb (by rw [z];simp))).trans (hk b o (fun z=>hb (by simp only [List.mem_cons,List.not_mem_nil,or_false] at z ⊢;rcases z with z | z | z | z<;>simp [z])) q)) (Nat.le_refl _) ⟨?_,[w0,w1],.cons rw0 (.cons rw1 (.nil)),⟨_,hT5,rfl,_,rfl⟩⟩,rfl,
      ⟨_,x0,x1,hT0,rfl,rfl,fun ys hy=>by rw [zp1 I hy hq0];exact hx0,fun ys hy=>by rw [zp1 I hy hq1];exact hx1⟩,⟨hz5,hs5.extBut _ _ (zb8 (by omega)) (hk _ _ (by simp) h2),⟨w0,w1,hs5.extBut _ _ (zb8 (by omega)) z2⟩,g0.extBut hs5.extBut (zb8 (by omega)),g1.extBut hs5.extBut (zb8 (by omega))⟩,fun b hb=>?_⟩
    · show 2≤sizeLine;decide
    · have:b < s.heap.objs.size:=by
        have zl:(n+4) < s.heap.objs.size:=zlt
        simp only [List.mem_cons,List.not_mem_nil,or_false] at hb
        rcases hb with z | z | z | z | z<;>(rw [z];(first | exact zl | exact Nat.lt_trans (by omega) zl))
      rw [za1 (Nat.ne_of_lt this)];exact (hf b hb).1
  done:=by
    intro X hP hw hK hc i pins s σ H E I hf st hg
    subst hP hw hK
    obtain ⟨xs0,xs1,hq0,hq1,hend⟩:=hg
    obtain ⟨h1,h2,⟨u0,u1,h3⟩,j0,j1⟩:=st
    obtain ⟨its0,rv0,p0⟩:=zi4 I hq0
    have hl0:=rv0.length
    obtain ⟨its1,rv1,p1⟩:=zi4 I hq1
    have hl1:=rv1.length
    have hT:s.TypeIs (.ref (n+4)) "zip":=⟨_,h1,rfl⟩
    unfold pyNext
    refine wpAny_bind (wpAny_attempt (wpAny_callSpecial?_slot (name:=Str.ofString "__next__") hT F.slot_zip_next
      (wpAny_call_entry F.slot_zip_next hT F.entry_zip_next (zww (I.ok.hd hc) hn h1 h2 h3 j0 j1 p0 p1 (by
        rcases hend with z | z
        · exact .inl (by simp;omega)
        · exact .inr (by simp;omega)
        ) fun h' e hk he=>?_) (F.args_zip_next_1 _))))
    obtain ⟨o,ho,hcl⟩:=he
    refine wpAny_bind (wpAny_isInstance (T:="StopIteration") (b:=true) ⟨o,ho,hcl⟩ isSubtype_stop ?_)
    exact wpAny_pure ⟨rfl,zr7 (s:=s) I hf (t':=s.toks) fun b o hb q=>hk b o (fun z=>hb (by simp only [List.mem_cons,List.not_mem_nil,or_false] at z ⊢;rcases z with z | z | z | z<;>simp [z])) q⟩
  self:=fun _ _ _ _ _ st h=>wpAny_pyIter_zip st.1 h
abbrev zlo (h:Heap) (b0:Bool) (a0:Nat) (b1:Bool) (a1:Nat):Heap:=h.push (zpd b0 a0)
abbrev zo9 (h:Heap) (b0:Bool) (a0:Nat) (b1:Bool) (a1:Nat):Heap:=(zlo h b0 a0 b1 a1).push (zpd b1 a1)
abbrev zo8 (h:Heap) (b0:Bool) (a0:Nat) (b1:Bool) (a1:Nat):Heap:=(zo9 h b0 a0 b1 a1).push {cls:=.type "tuple",data:=.seq #[.ref h.objs.size,.ref (zlo h b0 a0 b1 a1).objs.size]}
abbrev zo7 (h:Heap) (b0:Bool) (a0:Nat) (b1:Bool) (a1:Nat):Heap:=(zo8 h b0 a0 b1 a1).push {cls:=.type "tuple",data:=.seq #[.none,.none]}
abbrev zjd (h:Heap) (b0:Bool) (a0:Nat) (b1:Bool) (a1:Nat):Heap:=(zo7 h b0 a0 b1 a1).push {cls:=.type "zip",data:=.fields #[.none,.bool false,.bool false,.ref (zo9 h b0 a0 b1 a1).objs.size,.ref (zo8 h b0 a0 b1 a1).objs.size]}
theorem ztn (b0:Bool) (a0:Nat) (b1:Bool) (a1:Nat) (xs0 xs1:Array Value) :
    Meets (Builtin.«zip.__new__» ⟨[.type "zip",.ref a0,.ref a1],[]⟩) (fun _ R s=>zci b0 s.heap a0 xs0 /\ zci b1 s.heap a1 xs1 /\
      R (.ok (.ret (.ref (zo7 s.heap b0 a0 b1 a1).objs.size))) {s with heap:=zjd s.heap b0 a0 b1 a1}):=
  .of_wp fun prog w A R s h=>by
    obtain ⟨hp,g,d,tk,os⟩:=s;obtain ⟨q0,q1,h⟩:=h
    have hsub:=sub_zip
    have L0:zci b0 (Shared.heap ⟨hp,g,d,tk,os⟩) a0 xs0:=q0
    have L1:zci b1 (Shared.heap ⟨(zlo hp b0 a0 b1 a1),g,d,tk,os⟩) a1 xs1:=(q1).push _
    wp_walk using zl3 L0,zl3 L1
    exact ⟨_,rfl,h⟩
theorem zwo {prog:Program}{w:World}{A:Around}{E:Value->Shared->Prop}{s:Shared}{a0 a1:Nat}{b0 b1:Bool}{xs0 xs1:Array Value}{Q:Value->Shared->Prop} (q0:zci b0 s.heap a0 xs0) (q1:zci b1 s.heap a1 xs1)
    (h:∀ h',zki s.heap.objs.size b0 a0 b1 a1 0 h' .none->(∀ c o,s.heap.get? c=some o->h'.get? c=some o)->Q (.ref (s.heap.objs.size+4)) {s with heap:=h'}) :
    wpAny (model prog w) A (call (.type "zip") [.ref a0,.ref a1]) Q E s:=by
  refine callType_new F.called_zip (by decide) (F.typeCall_zip_2 _ _) (F.newCall_zip_2 _ _) (fun obj=>F.args_object_init_3 obj _ _) F.entry_zip_new (ztn b0 a0 b1 a1 xs0 xs1) ⟨q0,q1,?_⟩
  have z1:(zlo s.heap b0 a0 b1 a1).objs.size=s.heap.objs.size+1:=by rw [Heap.size_push]
  have z2:(zo9 s.heap b0 a0 b1 a1).objs.size=s.heap.objs.size+2:=by rw [Heap.size_push,z1]
  have z3:(zo8 s.heap b0 a0 b1 a1).objs.size=s.heap.objs.size+3:=by rw [Heap.size_push,z2]
  have z4:(zo7 s.heap b0 a0 b1 a1).objs.size=s.heap.objs.size+4:=by rw [Heap.size_push,z3]
  have z5:(zjd s.heap b0 a0 b1 a1).objs.size=s.heap.objs.size+5:=by rw [Heap.size_push,z4]
  have g1:(zjd s.heap b0 a0 b1 a1).get? s.heap.objs.size=some _:=Heap.get?_push_of_some _ (Heap.get?_push_of_some _ (Heap.get?_push_of_some _ (Heap.get?_push_of_some _ (Heap.get?_push_size _ rfl))))
  have g2:(zjd s.heap b0 a0 b1 a1).get? (zlo s.heap b0 a0 b1 a1).objs.size=some _:=Heap.get?_push_of_some _ (Heap.get?_push_of_some _ (Heap.get?_push_of_some _ (Heap.get?_push_size _ rfl)))
  have g3:(zjd s.heap b0 a0 b1 a1).get? (zo9 s.heap b0 a0 b1 a1).objs.size=some _:=Heap.get?_push_of_some _ (Heap.get?_push_of_some _ (Heap.get?_push_size _ rfl))
  have g4:(zjd s.heap b0 a0 b1 a1).get? (zo8 s.heap b0 a0 b1 a1).objs.size=some _:=Heap.get?_push_of_some _ (Heap.get?_push_size _ rfl)
  have g5:(zjd s.heap b0 a0 b1 a1).get? (zo7 s.heap b0 a0 b1 a1).objs.size=some _:=Heap.get?_push_size _ rfl
  show _ /\ _
  rw [z1] at g2
  rw [z2] at g3
  rw [z3] at g4
  rw [z4] at g5
  rw [z1] at g3
  rw [z2,z3] at g5
  rw [z4]
  exact ⟨⟨_,g5,rfl⟩,h _ ⟨g5,g3,⟨_,_,g4⟩,zcw.new g1,zcw.new g2⟩ fun c o x=>Heap.get?_push_of_some _ (Heap.get?_push_of_some _ (Heap.get?_push_of_some _ (Heap.get?_push_of_some _ (Heap.get?_push_of_some _ (x)))))⟩
def zkl (d0 d1:D):Walk:=fun M=>(zcn M d0).bind fun y0=>(zcn M d1).map fun y1=>zhm y0 y1
def zkr (g0 g1:Env->Mem->Res D):Env->Mem->Res Walk:=fun ρ M=>(g0 ρ M).bind fun d0 M=>(g1 ρ M).bind fun d1 M=>if zeh d0&&zeh d1 then .ok (zkl d0 d1) M else .bad
theorem zpl:∀ (y0 y1:List D) (i:Nat) (d:D),(zhm y0 y1)[i]?=some d↔∃ e0 e1,y0[i]?=some e0 /\ y1[i]?=some e1 /\ d=.tup [e0,e1]
  | c0::t0,c1::t1,0,d=>by simp [zhm,eq_comm]
  | c0 :: t0, c1 :: t1, i + 1, d => by
    have:=zpl t0 t1 i d
    simpa [zhm] using this
  | [],_,i,d=>by simp [zhm]
  | _::_,[],i,d=>by simp [zhm]
theorem zpk:∀ (y0 y1:List D) (i:Nat),(zhm y0 y1).length≤i->y0.length≤i \/ y1.length≤i
  | c0::t0,c1::t1,0,h=>by simp [zhm] at h
  | c0 :: t0, c1 :: t1, i + 1, h => by
    have:=zpk t0 t1 i (by simpa [zhm] using h)
    simpa using this
  | [],_,i,h=>by simp
  | _::_,[],i,h=>by simp
theorem zuo {fa:Fa}{X:Cx}{μ0:Mu}{H0:Hp}{d0 d1:D}{a0 a1:Nat} (r0:Rep fa X.K μ0 H0 d0 (.ref a0)) (r1:Rep fa X.K μ0 H0 d1 (.ref a1)):zey fa X.K μ0 H0 (zkl d0 d1) (Itz2 X.K (zha d0) a0 (zha d1) a1):=fun μ H M ds x hM e=>by
  unfold zkl at e
  cases s0:zcn M d0 with
  | none=>simp [s0] at e
  | some y0=>
  cases s1:zcn M d1 with
  | none=>simp [s0,s1] at e
  | some y1=>
  simp only [s0,s1,Option.bind_some,Option.map_some,Option.some.injEq] at e
  subst e
  obtain ⟨v0,q0,l0⟩:=zk8 hM (Rep.extW x r0) s0
  obtain ⟨v1,q1,l1⟩:=zk8 hM (Rep.extW x r1) s1
  refine ⟨fun i d hd=>?_,fun i hi=>⟨v0,v1,q0,q1,?_⟩⟩
  · obtain ⟨e0,e1,h0,h1,rfl⟩:=(zpl y0 y1 i d).mp hd
    obtain ⟨w0,hw0,rw0⟩:=l0.get h0
    obtain ⟨w1,hw1,rw1⟩:=l1.get h1
    refine ⟨⟨⟨v0,w0,q0,hw0⟩,⟨v1,w1,q1,hw1⟩⟩,fun y H' ⟨p,x0,x1,hp,ey,eH,t0,t1⟩=>?_⟩
    have z0:=t0 v0 q0
    rw [hw0] at z0;cases z0
    have z1:=t1 v1 q1
    rw [hw1] at z1;cases z1
    subst eH ey
    exact ⟨Ext.alloc hM hp,hM.alloc hp,p,[w0,w1],rfl,.inl (.inl zc8),⟨w0,[w1],rfl,rw0.ext (Ext.alloc hM hp),⟨w1,[],rfl,rw1.ext (Ext.alloc hM hp),rfl⟩⟩⟩
  · rcases zpk y0 y1 i hi with z | z
    · exact .inl (by rw [l0.length];exact z)
    · exact .inr (by rw [l1.length];exact z)
theorem z15 {fa:Fa}{X:Cx}{elts:List PySem.Expr}{kk:Nat}{tp p pos:Pos}{e0 e1:PySem.Expr}{g0 g1:Env->Mem->Res D} (h0:DE fa X e0 g0) (h1:DE fa X e1 g1) (hg:Gl X "zip") (hm:X.mg "zip"=none)
    (hs0:starEach [e0,e1] X.env=[(false,eval e0 X.env),(false,eval e1 X.env)]) (hs1:starEach [e1] X.env=[(false,eval e1 X.env)]):DI fa X (.Tuple elts kk tp) (.Call (.Name "zip" p) [e0,e1] [] pos) (zkr g0 g1):=by
  intro pins s σ H R I ⟨μ,ρ,M,hE,hM,h⟩
  obtain ⟨d0,M0,c0,t0⟩:=zbe h
  obtain ⟨d1,M1,c1,t1⟩:=zbe t0
  split at t1
  · next hsq=>
    simp only [Bool.and_eq_true] at hsq
    obtain ⟨hq0,hq1⟩:=hsq
    refine Call_ (zhg I hg hm boot_zip (PyProof.Rows.callWith_type1 (thn (zdb h0 (zdb h1 zfm hs1) (by rw [hs0,hs1]) pos pins s σ H (fun vs H1=>∃ v0 v1 μ1,vs=[v0,v1] /\ Ext μ H μ1 H1 /\ RelM fa X.K μ1 H1 M1 /\ Rep fa X.K μ1 H1 d0 v0 /\ Rep fa X.K μ1 H1 d1 v1) I ?_) fun us s1 ⟨vs,H1,I1,r1,v0,v1,μ1,ev,x1,m1,rv0,rv1⟩=>?_) (by rw [hs0,hs1]) (by rw [hs1];rfl)))
    · refine ⟨μ,ρ,M,hE,hM,?_⟩
      rw [c0]
      intro v0 H1 μ1 x1 m1 r0
      refine ⟨μ1,ρ,M0,(hE.ext x1),m1,?_⟩
      rw [c1]
      intro v1 H2 μ2 x2 m2 r1
      exact ⟨v0,v1,μ2,rfl,(x1.trans x2),m2,(r0.ext x2),r1⟩
    subst ev
    obtain ⟨a0,its0,rfl,z0⟩:=zp0 I1 m1 rv0 hq0
    obtain ⟨a1,its1,rfl,z1⟩:=zp0 I1 m1 rv1 hq1
    cases r1 with
    | cons y0 r1 =>
      cases r1 with
      | cons y1 r1 =>
        cases r1
        obtain rfl:=y0
        obtain rfl:=y1
        refine zwo z0 z1 fun h1 za hk=>?_
        have I2:Inv X pins σ H1 {s1 with heap:=h1}:=I1.kept (t':=s1.toks) hk
        refine wpAny_pyIter_zip (s:={s1 with heap:=h1}) za.1 ?_
        refine ⟨s1.heap.objs.size+4,[s1.heap.objs.size+4,s1.heap.objs.size,s1.heap.objs.size+1,s1.heap.objs.size+2,s1.heap.objs.size+3],_,_,H1,rfl,I2,zut s1.heap.objs.size (zha d0) a0 (zha d1) a1 ⟨z0.lt,z1.lt⟩,za,fun b hb=>?_,t1 _ H1 μ1 x1 m1 (zuo rv0 rv1)⟩
        have hb:s1.heap.objs.size≤b:=by
          simp only [List.mem_cons,List.not_mem_nil,or_false] at hb
          rcases hb with z | z | z | z | z<;>(rw [z];first | exact Nat.le_refl _ | exact Nat.le_add_right _ _)
        exact I1.fpOk hb (I1.hok.fresh hb)
  · exact t1.elim
def zrm (n:Nat) (b0:Bool) (a0:Nat) (b1:Bool) (a1:Nat) (b2:Bool) (a2:Nat) (i:Nat) (h:Heap) (f0:Value):Prop:=IsZip h (n+5) (n+3) (n+4) f0 /\ h.get? (n+3)=some {cls:=.type "tuple",data:=.seq #[.ref n,.ref (n+1),.ref (n+2)]} /\ (∃ u0 u1 u2,h.get? (n+4)=some {cls:=.type "tuple",data:=.seq #[u0,u1,u2]}) /\ zcw b0 h n a0 i /\ zcw b1 h (n+1) a1 i /\ zcw b2 h (n+2) a2 i
theorem zrm.keep {n i:Nat}{a0 a1 a2:Nat}{b0 b1 b2:Bool}{h h':Heap}{f0:Value} (x:zrm n b0 a0 b1 a1 b2 a2 i h f0) (k:∀ b∈[(n+5),n,(n+1),(n+2),(n+3),(n+4)],∀ o,h.get? b=some o->h'.get? b=some o):zrm n b0 a0 b1 a1 b2 a2 i h' f0:=by
  obtain ⟨h1,h2,⟨u0,u1,u2,h3⟩,j0,j1,j2⟩:=x
  exact ⟨k _ (by simp) _ h1,k _ (by simp) _ h2,⟨u0,u1,u2,k _ (by simp) _ h3⟩,j0.at fun o e=>k _ (by simp) o e,j1.at fun o e=>k _ (by simp) o e,j2.at fun o e=>k _ (by simp) o e⟩
def zipW3 (d0 d1 d2:D):Walk:=fun M=>(zcn M d0).bind fun y0=>(zcn M d1).bind fun y1=>(zcn M d2).map fun y2=>zip3L y0 y1 y2
def zty (g0 g1 g2:Env->Mem->Res D):Env->Mem->Res Walk:=fun ρ M=>(g0 ρ M).bind fun d0 M=>(g1 ρ M).bind fun d1 M=>(g2 ρ M).bind fun d2 M=>if zeh d0&&zeh d1&&zeh d2 then .ok (zipW3 d0 d1 d2) M else .bad
end LD
namespace LD
open PySem PySem.Spec PyProof.Rows L2
abbrev GE:=Env->Mem->Res D
abbrev GT:=Env->Mem->Res Bool
abbrev GA:=Env->Mem->Res (List D)
abbrev GW:=Env->Mem->Res Walk
abbrev GS:=Env->Mem->Res Fl
abbrev GB:=Env->List D->Mem->Res (List D)
abbrev Call:=Nat->List D->Mem->Res D
def zab (i:Nat):GE:=fun ρ M=>ofO M (ρ[i]?.getD none)
def gC (d:D):GE:=fun _ M=>.ok d M
def zat (m:Bool) (o:Bin) (a b:GE):GE:=fun ρ M=>(a ρ M).bind fun x M=>(b ρ M).bind fun y M=>zfj m o x y M
def za8 (o:Cmp) (a b:GE):GE:=fun ρ M=>(a ρ M).bind fun x M=>(b ρ M).bind fun y M=>(ofO M (zb1 o x y M)).bind fun b M=>.ok (.bl b) M
def ziw (o o':Cmp) (a b c:GE):GE:=fun ρ M=>(a ρ M).bind fun x M=>(b ρ M).bind fun y M=>(ofO M (zb1 o x y M)).bind fun k M=>
  if k then (c ρ M).bind fun z M=>(ofO M (zb1 o' y z M)).bind fun b M=>.ok (.bl b) M else .ok (.bl false) M
def zfu (a:GE):GE:=fun ρ M=>(a ρ M).bind fun x M=>match x with | .int i=>.ok (.int (-i)) M | _=>.bad
def zeq (a b:GE):GE:=fun ρ M=>(a ρ M).bind fun x M=>match x with | .bl true=>b ρ M | .bl false=>.ok (.bl false) M | _=>.bad
def gOr (a b:GE):GE:=fun ρ M=>(a ρ M).bind fun x M=>match x with | .bl true=>.ok (.bl true) M | .bl false=>b ρ M | _=>.bad
def gNot (a:GE):GE:=fun ρ M=>(a ρ M).bind fun x M=>match x with | .bl k=>.ok (.bl (!k)) M | _=>.bad
def ziv (t:GT) (a b:GE):GE:=fun ρ M=>(t ρ M).bind fun k M=>if k then a ρ M else b ρ M
def zax (a b:GE):GE:=fun ρ M=>(a ρ M).bind fun x M=>(b ρ M).bind fun y M=>ofO M (zg5 x y M)
def zdv (m hl hh:Bool) (a lo hi:GE):GE:=fun ρ M=>(a ρ M).bind fun x M=>(lo ρ M).bind fun l M=>(hi ρ M).bind fun h M=>if zc7 hl l&&zc7 hh h then zg4 m x l h M else .bad
def zah:GA:=fun _ M=>.ok [] M
def zaa (a:GE) (s:GA):GA:=fun ρ M=>(a ρ M).bind fun x M=>(s ρ M).bind fun xs M=>.ok (x::xs) M
def zbb (s:GA):GE:=fun ρ M=>(s ρ M).bind zjk
def zbq (m:Bool) (s:GA):GE:=fun ρ M=>(s ρ M).bind (zb5 m)
def zam (f:Nat) (c:Call) (s:GA):GE:=fun ρ M=>(s ρ M).bind fun ds M=>c f ds M
def zjb (i:Nat) (c:Call) (s:GA):GE:=fun ρ M=>match ρ[i]?.getD none with | some (.fn f)=>(s ρ M).bind fun ds M=>c f ds M | _=>.bad
def zbg (f:Blt) (s:GA):GE:=fun ρ M=>(s ρ M).bind fun ds M=>ze5 f ds M
def zce (t:Ty) (a:GE):GE:=fun ρ M=>(a ρ M).bind fun x M=>(ofO M (zcj t x)).bind fun b M=>.ok (.bl b) M
def zas (a:GE):GT:=fun ρ M=>(a ρ M).bind fun x M=>ofO M (zir M x)
def zg3 (a b:GT):GT:=fun ρ M=>(a ρ M).bind fun k M=>if k then b ρ M else .ok false M
def tOr (a b:GT):GT:=fun ρ M=>(a ρ M).bind fun k M=>if k then .ok true M else b ρ M
def zb4 (a:GT):GT:=fun ρ M=>(a ρ M).bind fun k M=>.ok (!k) M
def zav (t:Tgt) (a:GE):GS:=fun ρ M=>(a ρ M).bind fun x M=>(ofO M (zde t x ρ)).bind fun ρ1 M=>.ok (.next ρ1) M
def zft (a b d:GE):GS:=fun ρ M=>(d ρ M).bind fun z M=>(a ρ M).bind fun x M=>(b ρ M).bind fun y M=>match x,y with
  | .cell k, .int n => match M[k]? with
    | some ds => match ixN ds.length n with
      | some j=>.ok (.next ρ) (M.set k (ds.set j z))
      | none=>.bad
    | none=>.bad
  | _,_=>.bad
def zis (a d:GE):GS:=fun ρ M=>(a ρ M).bind fun x M=>(d ρ M).bind fun z M=>match x with
  | .cell k => match M[k]? with
    | some ds=>if ds.length < sz then .ok (.next ρ) (M.set k (ds++[z])) else .bad
    | none=>.bad
  | _=>.bad
def sEx (a:GE):GS:=fun ρ M=>(a ρ M).bind fun _ M=>.ok (.next ρ) M
def zar (a:GE):GS:=fun ρ M=>(a ρ M).bind fun x M=>.ok (.ret x) M
def sRetN:GS:=fun _ M=>.ok (.ret .non) M
def sPass:GS:=fun ρ M=>.ok (.next ρ) M
def zld:GS:=fun _ _=>.bad
def za4 (c:GT) (a b:GS):GS:=fun ρ M=>(c ρ M).bind fun k M=>if k then a ρ M else b ρ M
def zd3 (t:Tgt) (w:GW) (b:GS):GS:=fun ρ M=>(w ρ M).bind fun w M=>zes (zhp t b) w (.next ρ) M
def zai:GS:=fun ρ M=>.ok (.next ρ) M
def zae (a b:GS):GS:=fun ρ M=>(a ρ M).bind fun fl M=>match fl with
  | .next ρ=>b ρ M
  | fl=>.ok fl M
def notStar:PySem.Expr->Bool
  | .Starred _ _=>false
  | _=>true
theorem zei {a:PySem.Expr}{es:List PySem.Expr}{env:PySem.Env} (h:notStar a=true):starEach (a::es) env=(false,eval a env)::starEach es env:=by
  cases a<;>first | rfl | cases h
theorem ze9 {pos:Pos}{env:PySem.Env}:∀ {es:List PySem.Expr},es.all notStar=true->(backTo pos (starEach es env)).any (·.1)=false
  | [],_=>rfl
  | a :: es, h => by
    simp only [List.all_cons,Bool.and_eq_true] at h
    have ih:=ze9 (pos:=pos) (env:=env) h.2
    rw [zei h.1]
    simpa [backTo] using ih
section
variable {fa:Fa}{X:Cx}{a b d:PySem.Expr}{ga gb gd:GE}{ta tb:GT}{pos p:Pos}{es:List PySem.Expr}{gs:GA}{n:Nat}
theorem r_var {i:Nat}{x:Str} (hN:X.N[i]?=some x) (hv:Vis X.env.scope x) (hd:(x==("__debug__":Str))=false) (hcd:(x==("__classdict__":Str))=false):DE fa X (.Name x pos) (zab i):=d_var hN hv hd hcd
theorem r_int {i:Int}{j:Nat}:DE fa X (.Constant (.int i) j pos) (gC (.int i)):=d_int
theorem r_bl {i:Bool}{j:Nat}:DE fa X (.Constant (.bool i) j pos) (gC (.bl i)):=d_bl
theorem r_str {i:Str}{j:Nat}:DE fa X (.Constant (.str i) j pos) (gC (.str i)):=d_str
theorem r_non {j:Nat}:DE fa X (.Constant .none j pos) (gC .non):=d_non
theorem r_gint {x:Str}{i:Int}{t:Tok} (hg:Gl X x) (hm:X.mg x=some (.int i t)) (hd:(x==("__debug__":Str))=false):DE fa X (.Name x pos) (gC (.int i)):=zjc (v:=.int i) (zi7 hg hm ⟨t,rfl⟩ hd) fun _ _=>rfl
theorem r_bin (m:Bool) (o:Bin) (ha:DE fa X a ga) (hb:DE fa X b gb):DE fa X (.BinOp a (binOp o) b pos) (zat m o ga gb):=d_bin m o ha hb
theorem r_cmp (hu:Rm X) (o:Cmp) (ha:DE fa X a ga) (hb:DE fa X b gb) (hm:behindInMarks (zb6 o) b=false):DE fa X (.Compare a [zb6 o] [b] pos) (za8 o ga gb):=d_cmp hu o ha hb hm
theorem q_cmp (hu:Rm X) (o:Cmp) (ha:DE fa X a ga) (hb:DE fa X b gb) (hm:behindInMarks (zb6 o) b=false):DT fa X (.Compare a [zb6 o] [b] pos) (zas (za8 o ga gb)):=dt_cmp hu o ha hb hm
theorem r_chn (hu:Rm X) (o o':Cmp) {gc:GE} (ha:DE fa X a ga) (hb:DE fa X b gb) (hc:DE fa X d gc) (hm:lastMarks [zb6 o,zb6 o'] [b,d]=false):DE fa X (.Compare a [zb6 o,zb6 o'] [b,d] pos) (ziw o o' ga gb gc):=d_chn hu o o' ha hb hc hm
theorem q_chn (hu:Rm X) (o o':Cmp) {gc:GE} (ha:DE fa X a ga) (hb:DE fa X b gb) (hc:DE fa X d gc) (hm:lastMarks [zb6 o,zb6 o'] [b,d]=false):DT fa X (.Compare a [zb6 o,zb6 o'] [b,d] pos) (zas (ziw o o' ga gb gc)):=dt_chn hu o o' ha hb hc hm
theorem r_neg (ha:DE fa X a ga):DE fa X (.UnaryOp .USub a pos) (zfu ga):=d_neg ha
theorem r_and {rest:List PySem.Expr} (ha:DE fa X a ga) (hb:DE fa X (.BoolOp .And (b::rest) pos) gb):DE fa X (.BoolOp .And (a::b::rest) pos) (zeq ga gb):=d_and ha hb
theorem r_one {op:PySem.BoolOp} (ha:DE fa X a ga):DE fa X (.BoolOp op [a] pos) ga:=d_one ha
theorem r_not (ha:DE fa X a ga):DE fa X (.UnaryOp .Not a pos) (gNot ga):=d_not ha
theorem q_and {rest:List PySem.Expr} (ha:DT fa X a ta) (hb:DW fa X (.BoolOp .And (b::rest) pos) tb):DW fa X (.BoolOp .And (a::b::rest) pos) (zg3 ta tb):=dw_and ha hb
theorem q_or {rest:List PySem.Expr} (ha:DT fa X a ta) (hb:DW fa X (.BoolOp .Or (b::rest) pos) tb):DW fa X (.BoolOp .Or (a::b::rest) pos) (tOr ta tb):=dw_or ha hb
theorem q_and1 (ha:DT fa X a ta):DW fa X (.BoolOp .And [a] pos) ta:=z11 ha
theorem q_or1 (ha:DT fa X a ta):DW fa X (.BoolOp .Or [a] pos) ta:=dw_or1 ha
theorem q_w (h:DW fa X a ta):DT fa X a ta:=PW.pt h
theorem q_not (ha:DT fa X a ta):DT fa X (.UnaryOp .Not a pos) (zb4 ta):=dt_not ha
theorem q_tru (ha:DE fa X a ga) (he:∀ whole,isTrue a X.env whole=(do let v <- whole;standAt a.pos;holding [v] (truthy v))):DT fa X a (zas ga):=zyv ha he
theorem r_ite {c:PySem.Expr} (hc:DT fa X c ta) (ha:DE fa X a ga) (hb:DE fa X b gb):DE fa X (.IfExp c a b pos) (ziv ta ga gb):=d_ite hc ha hb
theorem r_idx (ha:DE fa X a ga) (hb:DE fa X b gb) (hs:zg8 b):DE fa X (.Subscript a b pos) (zax ga gb):=d_idx ha hb hs
theorem r_slc (m hl hh:Bool) {lo hi:Option PySem.Expr}{gl gh:GE}{p2:Pos} (ha:DE fa X a ga) (hlo:DO fa X lo hl gl) (hhi:DO fa X hi hh gh):DE fa X (.Subscript a (.Slice lo hi none p2) pos) (zdv m hl hh ga gl gh):=d_slc m hl hh ha hlo hhi
theorem o_none:DO fa X none false (gC .non):=z14
theorem o_some (ha:DE fa X a ga):DO fa X (some a) true ga:=z13 ha
theorem a_nil:DA fa X [] zah:=da_nil
theorem a_cons (ha:DE fa X a ga) (hs:DA fa X es gs) (h0:notStar a=true):DA fa X (a::es) (zaa ga gs):=z2c ha hs (zei h0)
theorem r_tup {k:Nat} (hs:DA fa X es gs):DE fa X (.Tuple es k pos) (zbb gs):=d_tup hs
theorem r_lst (m:Bool) (hs:DA fa X es gs):DE fa X (.List es pos) (zbq m gs):=d_lst m hs
theorem r_call (f:Nat) {x:Str}{call:Call} (C:∀ f,ze7 fa X.prog X.w X.K X.mg X.base n f (call f)) (hr:zbj n X.A) (hg:Gl X x) (hm:∀ ad,fa f=some ad->X.mg x=some (.ref ad)) (hs:DA fa X (a::es) gs)
    (hdb:(x==("__debug__":Str))=false) (he:notStar a=true) (hpl:es.all notStar=true):DE fa X (.Call (.Name x p) (a::es) [] pos) (zam f call gs):=d_call (C f) hr hg hm hs hdb (zei he) (ze9 hpl)
theorem z0x {i:Nat}{x:Str}{call:Call} (C:∀ f,ze7 fa X.prog X.w X.K X.mg X.base n f (call f)) (hr:zbj n X.A) (hN:X.N[i]?=some x) (hv:Vis X.env.scope x) (hs:DA fa X (a::es) gs)
    (hd:(x==("__debug__":Str))=false) (hcd:(x==("__classdict__":Str))=false) (he:notStar a=true) (hpl:es.all notStar=true) :
    DE fa X (.Call (.Name x p) (a::es) [] pos) (zjb i call gs):=z2d C hr hN hv hs hd hcd (zei he) (ze9 hpl)
theorem r_len (hg:Gl X "len") (hm:X.mg "len"=none) (hs:DA fa X (a::es) gs) (he:notStar a=true) (hpl:es.all notStar=true) :
    DE fa X (.Call (.Name "len" p) (a::es) [] pos) (zbg .len gs):=d_blt .len f_len hg hm PySem.boot_len hs (by decide) (by decide) (zei he) (ze9 hpl)
theorem r_all (hc:X.calm=true) (hg:Gl X "all") (hm:X.mg "all"=none) (hs:DA fa X (a::es) gs) (he:notStar a=true) (hpl:es.all notStar=true) :
    DE fa X (.Call (.Name "all" p) (a::es) [] pos) (zbg .all gs):=d_blt .all (f_all hc) hg hm (by decide +kernel) hs (by decide) (by decide) (zei he) (ze9 hpl)
theorem z0p (hg:Gl X "tuple") (hm:X.mg "tuple"=none) (hs:DA fa X (a::es) gs) (he:notStar a=true) (hpl:es.all notStar=true) :
    DE fa X (.Call (.Name "tuple" p) (a::es) [] pos) (zbg .tuple gs):=zwi .tuple z1u hg hm (by decide +kernel) hs (by decide) (by decide) (zei he) (ze9 hpl)
theorem r_list (m:Bool) (hg:Gl X "list") (hm:X.mg "list"=none) (hs:DA fa X (a::es) gs) (he:notStar a=true) (hpl:es.all notStar=true) :
    DE fa X (.Call (.Name "list" p) (a::es) [] pos) (zbg (.list m) gs):=zwi (.list m) (f_list m) hg hm (by decide +kernel) hs (by decide) (by decide) (zei he) (ze9 hpl)
theorem r_inst (t:Ty) (ht:∀ c,t≠.own c) {x:Str}{p1 p2:Pos} (ha:DE fa X a ga) (hg:Gl X "isinstance") (hm:X.mg "isinstance"=none) (hgt:Gl X x) (hmt:X.mg x=none) (hvt:bootBuiltins x=some (.type (tyName t)))
    (hn:x≠"__name__") (hdb:(x==("__debug__":Str))=false) (he:starEach [a,.Name x p1] X.env=(false,eval a X.env)::starEach [.Name x p1] X.env):DE fa X (.Call (.Name "isinstance" p2) [a,.Name x p1] [] pos) (zce t ga):=
  d_inst t ht ha hg hm (by decide +kernel) hgt hmt hvt hn hdb he
theorem s_asg {tg:PySem.Expr}{t:Tgt} (ha:DE fa X a ga) (hg:PG X tg (gT fa X.K t)) (hs:swapsWithSole [tg] a pos.line X.env=pure false) (hw:swappedStores [tg] a X.env=pure none) (h1:(assignEach [tg] X.env).map (·.2)=[assign tg X.env]) :
    DS fa X (.Assign [tg] a pos) (zav t ga):=ds_asg ha hg hs hw h1
theorem s_put {p2:Pos} (ha:DE fa X a ga) (hb:DE fa X b gb) (hd:DE fa X d gd)
    (h0:∀ v,assign (.Subscript a b p2) X.env v=(do
      let ov <- holding [v] (eval a X.env)
      let iv <- holding [v,ov] (eval b X.env)
      standAt p2
      holding [v,ov,iv] (setItem ov iv v)
      release [v,ov,iv] [])) (hs:swapsWithSole [.Subscript a b p2] d pos.line X.env=pure false) (hw:swappedStores [.Subscript a b p2] d X.env=pure none) (h1:(assignEach [.Subscript a b p2] X.env).map (·.2)=[assign (.Subscript a b p2) X.env]) :
    DS fa X (.Assign [.Subscript a b p2] d pos) (zft ga gb gd):=ds_put ha hb hd h0 hs hw h1
theorem s_app {apos cpos:Pos} (ha:DE fa X a ga) (hd:DE fa X d gd) (hbase:attributeBase a "append" X.env (eval a X.env)=eval a X.env) (hline:(apos.endLine==cpos.line)=true) (hs:starEach [d] X.env=[(false,eval d X.env)])
    (hsw:swapsWith (.Call (.Attribute a "append" apos) [d] [] cpos) none pos.line X.env=pure false):DS fa X (.Expr (.Call (.Attribute a "append" apos) [d] [] cpos) pos) (zis ga gd):=ds_app ha hd hbase hline hs hsw
theorem s_ret (ha:DE fa X a ga):DS fa X (.Return (some a) pos) (zar ga):=ds_ret ha
theorem s_ite {c:PySem.Expr}{st sf:List PySem.Stmt}{gt gf:GS} (hc:DT fa X c ta) (ht:DSs fa X st gt) (hf:DSs fa X sf gf):DS fa X (.If c st sf pos) (za4 ta gt gf):=ds_ite hc ht hf
theorem s_for {t:Tgt}{tg:PySem.Expr}{body:List PySem.Stmt}{gw:GW}{gb:GS} (hp:PassesOwn (model X.prog X.w) X.A X.env X.xe) (hc:X.calm=true) (hi:DI fa X tg a gw) (hg:PG X tg (gT fa X.K t)) (hb:DSs fa X body gb)
    (hs:∀ x,foldedSetIterable a X.env x=pure x):DS fa X (.For tg a body [] pos) (zd3 t gw gb):=ds_for hp hc hi hg hb hs
theorem zvc (m:Bool) {i:Nat}{y:Str}{py spos:Pos}{elt tg iter:PySem.Expr}{ifs:List PySem.Expr}{rest:List Comprehension}{scope:Scope}{own bn:List Str}{t:Tgt}{W:List Nat}{body:Addr->PySem.Env->Sem Unit}{gw:GW}{g:GB}
    (S:zer X own bn scope) (hcalm:X.calm=true) (hi:DI fa X tg iter gw) (B:Block fa X own bn scope tg t W body g) (hT:zmx X elt tg iter ifs rest scope pos body) (hW:∀ i∈W,i∉slots t) (hn:∀ i∈slots t++W,i < own.length)
    (hs:∀ x,foldedSetIterable iter X.env x=pure x) (hN:X.N.Nodup) (hy:X.N[i]?=some y) (hl:X.env.scope.names.lookup y=some .local)
    (hsw:swapsWith (.ListComp elt (⟨tg,iter,ifs,0⟩::rest) scope pos) (some (.Name y py)) spos.line X.env=pure true) :
    DS fa X (.Assign [.Name y py] (.ListComp elt (⟨tg,iter,ifs,0⟩::rest) scope pos) spos) (zav (.one i) (zb3 m own.length t gw g)):=zt7 m S hcalm hi B hT hW hn hs hN hy hl hsw
theorem ss_nil:DSs fa X [] zai:=z12
theorem z0c {st:PySem.Stmt}{ss:List PySem.Stmt}{g g':GS} (h1:DS fa X st g) (h2:DSs fa X ss g'):DSs fa X (st::ss) (zae g g'):=zyw h1 h2
end
structure Df where
  params:Nat
  slots:Nat
  body:Call->GS
def finD:Fl->Mem->Res D
  | .ret d,M=>.ok d M
  | .next _,M=>.ok .non M
  | .exc x _,M=>.err x M
def finR:Res Fl->Res D
  | .ok fl M=>finD fl M
  | _=>.bad
def zgg (c:Call) (d:Df) (ds:List D) (M:Mem):Res D:=if ds.length=d.params then finR (d.body c (ds.map some++List.replicate (d.slots - ds.length) none) M) else .bad
def zaq (P:Nat->Option Df):Nat->Call
  | 0,_,_,_=>.bad
  | n + 1, f, ds, M => match P f with
    | none=>.bad
    | some d=>zgg (zaq P n) d ds M
structure zpj (fa:Fa) (P:Program) (w:World) (K:PySem.W.Frag) (mg:Str->Option Value) (base:Heap) (f:Nat) (d:Df):Prop where
  ex:∃ (ad:Addr) (fd:FuncData) (ps N:List Str) (st:PySem.Stmt) (x qual:Str),fa f=some ad /\ Fun K x qual st ad fd /\ Binds K fd ps [] /\ zbd N ps (zag st) /\ d.params=ps.length /\ d.slots=N.length /\
    ∀ (call : Call) (n : Nat) (cdv : Value) (A : Around) (outer : List PySem.Env) (s : Shared) (H : Hp) (E : XK), (∀ f, ze7 fa P w K mg base n f (call f)) -> zbj n (A.deeper (envOfC qual (zag st) s.heap.objs.size ad cdv)) ->
      DSs fa (zb0 (CXE P w) P w K mg base N qual (zag st) ad cdv A outer s H E) (za9 st) (d.body call)
theorem zuy {fa:Fa}{K:PySem.W.Frag}{μ:Mu}{H:Hp}{N:List Str}{ds:List D}{vs:List V} (h:za3 fa K μ H ds vs):zbv fa K μ H (L2.start N vs) (ds.map some++List.replicate (N.length - ds.length) none):=by
  have hl:=h.length
  refine ⟨by unfold L2.start;simp [hl],fun i d e=>?_⟩
  by_cases hi:i < ds.length
  · rw [List.getElem?_append_left (by simpa using hi),List.getElem?_map] at e
    cases e1:ds[i]? with
    | none=>rw [e1] at e;cases e
    | some d' =>
      rw [e1] at e
      cases e
      obtain ⟨v,hv,rv⟩:=h.get e1
      refine ⟨v,?_,rv⟩
      unfold L2.start
      rw [List.getElem?_append_left (by simp;omega),List.getElem?_map,hv]
      rfl
  · rw [List.getElem?_append_right (by simp;omega),List.getElem?_replicate] at e
    split at e<;>cases e
theorem zsp {P:Program}{w:World}{K:PySem.W.Frag}{mg:Str->Option Value}{base:Heap}{x qual:Str}{st:PySem.Stmt}{f:Addr}{fd:FuncData}{N ps:List Str}{k:Nat}{sp:Sp} (F:Fun K x qual st f fd) (S:zbd N ps (zag st)) (len:∀ vs H Q E,sp vs H Q E->vs.length=ps.length)
    (hbody:∀ (cdv:Value) (A:Around) (outer:List PySem.Env) (s:Shared) (H:Hp) (vs:List V) (Q:VK) (E:XK),zbj k (A.deeper (envOfC qual (zag st) s.heap.objs.size f cdv))->sp vs H Q E->
      ∃ t,PSs (zb0 (CXE P w) P w K mg base N qual (zag st) f cdv A outer s H E) (za9 st) t /\ t {nx:=fun _ H'=>Q .non H',rt:=Q} (start N vs) H):zgi P w K mg base (CXE P w) (k+1) f fd ps sp:=by
  obtain ⟨oc,od,kV,doc,pm,an,cdv,ct,osl,rfl,lk,hcd⟩:=F.ex
  exact fn_of lk hcd S len fun A outer s H vs Q E hr hsp=>hbody cdv A outer s H vs Q E hr hsp
theorem zok {fa:Fa}{P:Program}{w:World}{K:PySem.W.Frag}{mg:Str->Option Value}{base:Heap}{N:List Str}{qual:Str}{scope:Scope}{f:Addr}{cd:Value}{A:Around}{outer:List PySem.Env}{s:Shared}{H:Hp}{E:XK}{Q:VK}{d:Df}{c:Call}{ds:List D}{vs:List V}{μ:Mu}{M:Mem}
    (hs:d.slots=N.length) (hM:RelM fa K μ H M) (hr:za3 fa K μ H ds vs) (hq:okX (zgg c d ds M) (zbt fa K μ H Q) (zuf fa K μ H E)):tF fa (zb0 (CXE P w) P w K mg base N qual scope f cd A outer s H E) (d.body c) {nx:=fun _ H'=>Q .non H',rt:=Q} (start N vs) H:=by
  unfold zgg at hq
  split at hq
  · refine ⟨μ,_,M,zuy hr,hM,?_⟩
    rw [<- hs]
    cases e1:d.body c (ds.map some++List.replicate (d.slots - ds.length) none) M with
    | ok fl M1 =>
      rw [e1] at hq
      cases fl with
      | next ρ' =>
        have q1:zbt fa K μ H Q .non M1:=hq
        exact fun σ' H' μ' x' e' m'=>q1 .non H' μ' x' m' rfl
      | ret d=>exact hq
      | exc x ρ' =>
        have q1:zuf fa K μ H E x M1:=hq
        exact fun pins σ' H' μ' s' a C dx c p I y _ m ex hc hn fl=>zyl I fl (q1 C dx c p H' μ' y m ex hc hn)
    | err=>rw [e1] at hq;exact hq.elim
    | bad=>rw [e1] at hq;exact hq.elim
  · exact hq.elim
theorem zrf {fa:Fa}{P:Program}{w:World}{K:PySem.W.Frag}{mg:Str->Option Value}{base:Heap}{Pg:Nat->Option Df} (h:∀ f d,Pg f=some d->zpj fa P w K mg base f d):∀ (n f:Nat),ze7 fa P w K mg base n f (zaq Pg n f)
  | 0,f=>.inl fun _ _=>rfl
  | n + 1, f => by
    have ih:=zrf h n
    cases e:Pg f with
    | none=>exact .inl fun ds M=>by show (match Pg f with | none=>Res.bad | some d=>zgg (zaq Pg n) d ds M)=Res.bad;rw [e]
    | some d =>
      have eq:∀ ds M,zaq Pg (n+1) f ds M=zgg (zaq Pg n) d ds M:=fun ds M=>by show (match Pg f with | none=>Res.bad | some d=>zgg (zaq Pg n) d ds M)=_;rw [e]
      obtain ⟨ad,fd,ps,N,st,x,qual,h1,F,hb,S,hp,hs,hbody⟩:=(h f d e).ex
      refine .inr ⟨ad,fd,ps,h1,F.kp,hb,fun ds M hl=>?_,?_⟩
      · rw [eq];unfold zgg;rw [if_neg (by rw [hp];exact hl)]
      · refine zsp F S (fun vs H Q E hsp=>hsp.1) fun cdv A outer s H vs Q E hr hsp=>⟨_,hbody (zaq Pg n) n cdv A outer s H E ih hr,?_⟩
        obtain ⟨hl,μ,M,ds,hM,hr,hq⟩:=hsp
        rw [eq] at hq
        exact zok hs hM hr hq
end LD
namespace LD
open PySem PySem.Spec PyProof.Rows L2
def zln (P:Params) (e:DictEntry) (kv:Str×Addr):Prop:=∃ t,e=⟨PyData.keyHash P kv.1,.str kv.1 t,.ref kv.2⟩
structure zgy (K:PySem.W.Frag) (P:Params) (a:Addr) (kvs:List (Str×Addr)):Prop where
  ex:∃ (es:Array DictEntry) (n:Nat),K.lookup a=some {cls:=.type "dict",data:=.dict es n} /\ Paired (zln P) es.toList kvs
  nd:(kvs.map (·.1)).Nodup
  ns:(a==sysModules)=false
def kvV (kvs:List (Str×Addr)):List (Key×Value):=kvs.map fun kv=>(Sum.inr kv.1,.ref kv.2)
theorem zq8 {P:Params}:∀ {es:List DictEntry}{kvs:List (Str×Addr)},Paired (zln P) es kvs->∀ e∈es,∃ x t,e.key=.str x t /\ e.hash=PyData.keyHash P x
  | _,_,.nil,e,h=>nomatch h
  | _, _, .cons r t, e, h => by
    rcases List.mem_cons.mp h with z | z
    · subst z;obtain ⟨t,rfl⟩:=r;exact ⟨_,t,rfl,rfl⟩
    · exact zq8 t e z
theorem zmr {prog:Program}{w:World}:∀ {es:List DictEntry}{kvs:List (Str×Addr)},Paired (zln w.params) es kvs->Pairs (zi9 prog w) es (kvV kvs)
  | _,_,.nil=>.nil
  | e :: es, kv :: kvs, .cons r t => by
    obtain ⟨u,rfl⟩:=r
    exact Pairs.cons (kv:=((Sum.inr kv.1:Key),Value.ref kv.2)) (zij kv.1 u) rfl (zmr t)
theorem zqw {X:Cx}{pins:List (Addr×Obj)}{σ:L2.St}{H:Hp}{s:Shared}{a:Addr}{kvs:List (Str×Addr)} (I:Inv X pins σ H s) (h:zgy X.K X.w.params a kvs):s.heap.DictOf (zi9 X.prog X.w) a (kvV kvs):=by
  obtain ⟨es,n,lk,pr⟩:=h.ex
  refine ⟨_,es,n,I.kIn _ _ lk,⟨rfl,rfl,rfl⟩,rfl,fun e he=>?_,zmr pr,?_⟩
  · obtain ⟨x,t,e1,e2⟩:=zq8 pr e (by simpa using he)
    exact ⟨Sum.inr x,by rw [e1];exact zij x t,e2⟩
  · have e:(kvV kvs).map (·.1)=(kvs.map (·.1)).map Sum.inr:=by unfold kvV;simp
    rw [e]
    exact List.Pairwise.map _ (fun a b (n:a≠b) z=>n (Sum.inr.inj z)) h.nd
theorem zv7 (kvs:List (Str×Addr)) (k:Str):valueAt (kvV kvs) (Sum.inr k:Key)=(kvs.lookup k).map Value.ref:=by
  induction kvs with
  | nil=>rfl
  | cons kv r ih =>
    unfold valueAt kvV at ih ⊢
    rw [List.map_cons,List.find?_cons,List.lookup_cons]
    by_cases e:kv.1=k
    · subst e;simp
    · have e2:decide ((Sum.inr kv.1:Key)=Sum.inr k)=false:=decide_eq_false fun z=>e (Sum.inr.inj z)
      have e3:(k==kv.1)=false:=beq_eq_false_iff_ne.mpr (Ne.symm e)
      rw [e2,e3]
      exact ih
def ze4 (fa:Fa) (kvs:List (Str×Addr)) (fs:List (Str×Nat)):Prop:=Paired (fun (p:Str×Addr) (q:Str×Nat)=>p.1=q.1 /\ fa q.2=some p.2) kvs fs
theorem ze4.look {fa:Fa}{k:Str}:∀ {kvs:List (Str×Addr)}{fs:List (Str×Nat)},ze4 fa kvs fs->(fs.lookup k=none /\ kvs.lookup k=none) \/ ∃ f ad,fs.lookup k=some f /\ kvs.lookup k=some ad /\ fa f=some ad
  | _,_,.nil=>.inl ⟨rfl,rfl⟩
  | (x, a) :: r, (y, f) :: t, .cons ⟨e1, e2⟩ q => by
    have e1:x=y:=e1
    subst e1
    rw [List.lookup_cons,List.lookup_cons]
    cases e:k==x with
    | true=>exact .inr ⟨f,a,rfl,rfl,e2⟩
    | false=>exact ze4.look q
def zjo (fs:List (Str×Nat)) (i:GE):GE:=fun ρ M=>(i ρ M).bind fun d M=>match d with
  | .str k=>ofO M ((fs.lookup k).map D.fn)
  | _=>.bad
def zjn (fs:List (Str×Nat)) (i:GE):GE:=fun ρ M=>(i ρ M).bind fun d M=>match d with
  | .str k=>.ok (.bl (!(fs.lookup k).isSome)) M
  | _=>.bad
section
variable {fa:Fa}{X:Cx}{a b:PySem.Expr}{ga gb:GE}{pos p:Pos}{ad:Addr}{kvs:List (Str×Addr)}{fs:List (Str×Nat)}{x:Str}
theorem zyp (hd:zgy X.K X.w.params ad kvs):IxR X (fun x y H Q=>∃ k v,x=.ref ad /\ y=.str k /\ kvs.lookup k=some v /\ Q (.ref v) H):=by
  intro value slice pins s σ H x y v u Q I rx ry h hs
  obtain ⟨k,c,rfl,rfl,hk,q⟩:=h
  cases rx
  obtain ⟨t,rfl⟩:=ry
  have dd:=zqw I hd
  have hT:s.TypeIs (.ref ad) "dict":=let ⟨o,_,_,ho,⟨hc,_⟩,_⟩:=dd;⟨o,ho,hc⟩
  refine tail_any hT PySem.F.slot_dict_getitem.lookup (wpAny_getItem_of (k:=(Sum.inr k:Key)) (zij k t) dd.mapOf (v:=.ref c) ?_ ?_) hs
  · rw [zv7,hk];rfl
  · exact ⟨.ref c,H,I.tok _,rfl,q⟩
theorem zx9 (hd:zgy X.K X.w.params ad kvs):OpR X (compareOp .NotIn) (fun x y H Q=>∃ k,x=.str k /\ y=.ref ad /\ Q (.bl (!(kvs.lookup k).isSome)) H):=by
  intro pins s σ H x y v u Q I rx ry h
  obtain ⟨k,rfl,rfl,q⟩:=h
  obtain ⟨t,rfl⟩:=rx
  cases ry
  have dd:=zqw I hd
  refine wpAny_notIn_of (k:=(Sum.inr k:Key)) (zij k t) hd.ns dd.mapOf ?_
  rw [zv7,Option.isSome_map]
  exact ⟨.bl _,H,I.tok _,rfl,q⟩
theorem r_dget (hd:zgy X.K X.w.params ad kvs) (ho:ze4 fa kvs fs) (hg:Gl X x) (hm:X.mg x=some (.ref ad)) (hdb:(x==("__debug__":Str))=false) (hb:DE fa X b gb) (hs:zg8 b):DE fa X (.Subscript (.Name x p) b pos) (zjo fs gb):=
  zco (pe_ix (zyp hd) (zi7 (v:=.ref ad) hg hm rfl hdb) hb hs) fun σ H Q ⟨μ,ρ,M,hE,hM,h⟩=>t1 hE hM h fun d M1 v H1 μ1 x1 hE1 hM1 r1 h1=>by
    cases d with
    | str k =>
      obtain ⟨d,e,q⟩:=zkp h1
      rcases ho.look (k:=k) with ⟨e1,_⟩ | ⟨f,c,e1,e2,e3⟩
      · rw [e1] at e;cases e
      · rw [e1] at e
        cases e
        exact ⟨k,c,rfl,r1,e2,q (.ref c) H1 μ1 x1 hM1 ⟨c,rfl,e3⟩⟩
    | _=>exact h1.elim
theorem zyc {d:D}{M1:Mem}{P:D->Mem->Prop} (h:okE (match d with | .str k=>Res.ok (.bl (!(fs.lookup k).isSome)) M1 | _=>.bad) P):∃ k,d=.str k /\ P (.bl (!(fs.lookup k).isSome)) M1:=by
  cases d with
  | str k=>exact ⟨k,rfl,h⟩
  | _=>exact h.elim
theorem zyx (ho:ze4 fa kvs fs) (k:Str):(kvs.lookup k).isSome=(fs.lookup k).isSome:=by
  rcases ho.look (k:=k) with ⟨e1,e2⟩ | ⟨f,c,e1,e2,_⟩<;>rw [e1,e2]<;>rfl
theorem i_dnot (ho:ze4 fa kvs fs) (σ:L2.St) (H:Hp) (Q:VK) (h:tE fa X.K (zjn fs ga) σ H Q):tOp (fun x y H Q=>∃ k,x=.str k /\ y=.ref ad /\ Q (.bl (!(kvs.lookup k).isSome)) H) (tE fa X.K ga) (tC (.ref ad)) σ H Q:=by
  obtain ⟨μ,ρ,M,hE,hM,h⟩:=h
  refine t1 hE hM h fun d M1 v H1 μ1 x1 hE1 hM1 r1 h1=>?_
  obtain ⟨k,rfl,q⟩:=zyc h1
  refine ⟨k,r1,rfl,?_⟩
  rw [zyx ho]
  exact q (.bl _) H1 μ1 x1 hM1 rfl
theorem q_dnot (hd:zgy X.K X.w.params ad kvs) (ho:ze4 fa kvs fs) (hg:Gl X x) (hm:X.mg x=some (.ref ad)) (hdb:(x==("__debug__":Str))=false) (ha:DE fa X a ga) (hmk:behindInMarks .NotIn (.Name x p)=false):DT fa X (.Compare a [.NotIn] [.Name x p] pos) (zas (zjn fs ga)):=
  zj5 (zsf (zx9 hd) ha (zi7 (v:=.ref ad) hg hm rfl hdb) hmk) fun σ H Q h=>by
    refine i_dnot ho σ H _ ?_
    obtain ⟨μ,ρ,M,hE,hM,h⟩:=h
    obtain ⟨z,M3,e,q⟩:=zbe h
    refine ⟨μ,ρ,M,hE,hM,?_⟩
    rw [e]
    have hz:∃ k,z=.bl k:=by
      obtain ⟨d,M1,e1,e2⟩:=zfi e
      cases d<;>first | (cases e2;exact ⟨_,rfl⟩) | cases e2
    obtain ⟨k,rfl⟩:=hz
    intro v H' μ' x' m' r'
    obtain rfl:v=.bl k:=r'
    exact ⟨k,rfl,q H' μ' x' m'⟩
def zj9 (m:Bool) (a:GE):GE:=fun ρ M=>(a ρ M).bind fun x M=>match x with
  | .int n=>if -(2 ^ 62)≤n /\ n < 2 ^ 20 then zb5 m ((List.range n.toNat).map fun (k:Nat)=>D.int (k:Int)) M else .bad
  | _=>.bad
theorem ztw:∀ (n:Nat) (its:List Value),its.length=n->(∀ (i:Nat) (v:Value),its[i]?=some v->∃ t,v=.int (i:Int) t)->Vals ((List.range n).map fun (k:Nat)=>V.int (k:Int)) its:=by
  intro n its hl h
  have key:∀ (k:Nat) (its:List Value),(∀ (i:Nat) (v:Value),its[i]?=some v->∃ t,v=.int ((k+i:Nat):Int) t)->Vals ((List.range its.length).map fun (j:Nat)=>V.int ((k+j:Nat):Int)) its:=by
    intro k its
    induction its generalizing k with
    | nil=>intro _;exact .nil
    | cons v r ih =>
      intro h
      rw [List.length_cons,List.range_succ_eq_map,List.map_cons,List.map_map]
      refine .cons (h 0 v rfl) ?_
      have:=ih (k+1) fun i u e=>by
        have:=h (i+1) u (by simpa using e)
        rw [show k+1+i=k+(i+1) by omega];exact this
      refine cast (congrArg (fun f=>Vals ((List.range r.length).map f) r) ?_) this
      funext j
      show V.int _=V.int _
      congr 2
      omega
  have:=key 0 its fun i v e=>by rw [Nat.zero_add];exact h i v e
  rw [hl] at this
  simpa using this
theorem z0q (m:Bool) {p1 p2 pos2:Pos} (hc:X.calm=true) (ha:DE fa X a ga) (hgl:Gl X "list") (hml:X.mg "list"=none) (hg:Gl X "range") (hm:X.mg "range"=none) (hs:starEach [a] X.env=[(false,eval a X.env)])
    (hs2:starEach [.Call (.Name "range" p2) [a] [] pos2] X.env=[(false,eval (.Call (.Name "range" p2) [a] [] pos2) X.env)]) :
    DE fa X (.Call (.Name "list" p1) [.Call (.Name "range" p2) [a] [] pos2] [] pos) (zj9 m ga):=by
  intro pins s σ H Q I ⟨μ,ρ,M,hE,hM,h⟩
  obtain ⟨x,M1,e,q⟩:=zbe h
  have key:∀ n,x=.int n->okE (if -(2 ^ 62)≤n /\ n < 2 ^ 20 then zb5 m ((List.range n.toNat).map fun (k:Nat)=>D.int (k:Int)) M1 else .bad) (zbt fa X.K μ H Q)->
      wpAny (model X.prog X.w) X.A (eval (.Call (.Name "list" p1) [.Call (.Name "range" p2) [a] [] pos2] [] pos) X.env) (EP X pins σ Q) X.xe s:=fun n en q'=>by
    subst en
    by_cases c:-(2 ^ 62)≤n /\ n < 2 ^ 20
    · rw [if_pos c] at q'
      refine Call_ (zhg I hgl hml (by decide +kernel:bootBuiltins "list"=some (.type "list")) (PyProof.Rows.callWith_type1 ?_ hs2 rfl))
      rw [hs2]
      refine Calls.spliced_cons ?_
      refine Call_ (zhg I hg hm boot_range (PyProof.Rows.callWith_type1 (thn (zdb ha zfm hs pos2 pins s σ H (fun vs H1=>∃ μ1,vs=[.int n] /\ Ext μ H μ1 H1 /\ RelM fa X.K μ1 H1 M1) I ⟨μ,ρ,M,hE,hM,?_⟩) fun us s1 ⟨vs,H1,I1,r1,μ1,ev,x1,m1⟩=>?_) hs rfl))
      · rw [e]
        intro v H1 μ1 x1 m1 r1
        obtain rfl:v=.int n:=r1
        exact ⟨μ1,rfl,x1,m1⟩
      subst ev
      cases r1 with
      | cons r rr =>
        cases rr
        obtain ⟨t,rfl⟩:=r
        refine call_range_1 ?_
        refine Calls.spliced_nil ?_
        refine call_list_range (n:=n.toNat) (I.ok.hd hc) (IsRange.new ..) (small_one (by omega) (by omega) (by omega) (by omega)) (by rw [rangeSize_one];split<;>omega) (by omega) fun h' tk acc' c' kp eS its=>?_
        obtain ⟨hsz,hit⟩:=its
        have I2:Inv X pins σ H1 {s1 with heap:=s1.heap.push {cls:=.type "range",data:=.fields #[.int 0 s1.toks,.int n t,.int 1 (s1.toks+1)]},toks:=s1.toks+1+1}:=I1.kept fun b o e=>Heap.get?_push_of_some _ e
        have hv:Vals ((List.range n.toNat).map fun (k:Nat)=>V.int (k:Int)) acc'.toList:=ztw n.toNat acc'.toList (by simpa using hsz) fun i v e=>by
          obtain ⟨u,z⟩:=hit i v (by simpa using e)
          exact ⟨u,by rw [z];simp⟩
        have rl:za3 fa X.K μ1 H1 ((List.range n.toNat).map fun (k:Nat)=>D.int (k:Int)) ((List.range n.toNat).map fun (k:Nat)=>V.int (k:Int)):=by
          have:=za3.ints (fa:=fa) (K:=X.K) (μ:=μ1) (H:=H1) ((List.range n.toNat).map fun (k:Nat)=>(k:Int))
          simpa [List.map_map,Function.comp_def] using this
        obtain ⟨c1,k1⟩:=zgf m1 rl (okW q' x1)
        refine ⟨.ref _,_,I2.laid (t':=tk) (o:=.lst ((List.range n.toNat).map fun (k:Nat)=>V.int (k:Int))) kp (Nat.le_refl _) ⟨?_,acc'.toList,c',hv,by simpa using eS⟩,rfl,k1 _ (I2.hok.fresh (Nat.le_refl _))⟩
        rw [rl.length,<- ze3];exact c1
    · rw [if_neg c] at q';exact q'.elim
  cases x with
  | int n=>exact key n rfl q
  | _=>exact q.elim
end
end LD
namespace LD
open PySem PySem.Spec PyProof.Rows L2
def zst (bn N:List Str) (sc scope:Scope):Bool:=
  scope.names.all (fun y=>y.2 != .cell&&(y.2 != .local||scope.names.lookup y.1==some .local)&&(y.2 != .free||sc.names.lookup y.1==some .cell||sc.names.lookup y.1==some .free)) &&
  bn.length==N.length&&(bn.zip N).all fun p=>(p.1==p.2&&scope.names.lookup p.2 != some .local)||scope.names.lookup p.1==none
theorem zma {α β:Type}{R:α->β->Prop}:∀ {l:List α}{r:List β},l.length=r.length->(∀ p∈l.zip r,R p.1 p.2)->Paired R l r
  | [],[],_,_=>.nil
  | a::l,b::r,h,g=>.cons (g (a,b) List.mem_cons_self) (zma (by simpa using h) fun p hp=>g p (List.mem_cons_of_mem _ hp))
  | [],_::_,h,_=>by cases h
  | _::_,[],h,_=>by cases h
theorem zcv {X:Cx}{own bn N:List Str}{sc scope:Scope} (hk:scope.kind=.function) (hs:X.env.scope=sc) (hN:X.N=N) (h:zst bn N sc scope=true):zer X own bn scope:=by
  unfold zst at h
  rw [Bool.and_eq_true,Bool.and_eq_true,List.all_eq_true,List.all_eq_true] at h
  obtain ⟨⟨h1,hl⟩,h2⟩:=h
  refine ⟨hk,fun y hy=>?_,fun y hy e=>?_,fun y hy e=>?_,?_⟩
  · have:=h1 y hy
    simp only [Bool.and_eq_true] at this
    simpa using this.1.1
  · have:=h1 y hy
    simp only [Bool.and_eq_true] at this
    have:=this.1.2
    rw [e] at this
    simpa using this
  · have:=h1 y hy
    simp only [Bool.and_eq_true] at this
    have:=this.2
    rw [e] at this
    show X.env.scope.names.lookup y.1=_ \/ X.env.scope.names.lookup y.1=_
    rw [hs]
    simpa using this
  · rw [hN]
    refine zma (by simpa using hl) fun p hp=>?_
    have:=h2 p hp
    simp only [Bool.or_eq_true,Bool.and_eq_true,beq_iff_eq,bne_iff_ne] at this
    exact this
section
variable {fa:Fa}{X:Cx}{elt tg iter c t2 i2:PySem.Expr}{scope:Scope}{pos:Pos}{own bn:List Str}{t u:Tgt}{gw gw2:GW}{ge:GE}{gc:GT}
theorem zji {n:Nat}{l:List Nat} (h:l.all (· < n)=true):∀ i∈l,i < n:=fun i hi=>by
  have:=List.all_eq_true.mp h i hi
  simpa using this
theorem zu6 {l W:List Nat} (h:W.all (fun i=>!l.contains i)=true):∀ i∈W,i∉l:=fun i hi z=>by
  have:=List.all_eq_true.mp h i hi
  simp [z] at this
theorem z0w (m:Bool) (S:zer X own bn scope) (hc:X.calm=true) (hi:DI fa X tg iter gw) (pg:∀ cl C fp s H,PG (zbz X own bn scope cl C fp s H) tg (gT fa X.K t)) (he:∀ cl C fp s H,DE fa (zbz X own bn scope cl C fp s H) elt ge)
    (hn:(slots t).all (· < own.length)=true) (hs:∀ x,foldedSetIterable iter X.env x=pure x):DE fa X (.ListComp elt [⟨tg,iter,[],0⟩] scope pos) (zb3 m own.length t gw (zb7 ge)):=
  zwh m (W:=[]) (body:=fun a env=>eval elt env >>= fun x=>call (.builtin "list.append") [.ref a,x] >>= fun _=>pure ()) S hc hi ⟨pg,fun cl C fp s H a=>zms (he cl C fp s H)⟩ (fun it a env=>zxh elt tg iter [] scope pos (.ref it) (.ref a) env) (fun i h=>nomatch h) (by simpa using zji hn) hs
theorem zxz (m:Bool) (S:zer X own bn scope) (hc:X.calm=true) (hi:DI fa X tg iter gw) (pg:∀ cl C fp s H,PG (zbz X own bn scope cl C fp s H) tg (gT fa X.K t)) (ht:∀ cl C fp s H,DT fa (zbz X own bn scope cl C fp s H) c gc) (he:∀ cl C fp s H,DE fa (zbz X own bn scope cl C fp s H) elt ge)
    (hn:(slots t).all (· < own.length)=true) (hs:∀ x,foldedSetIterable iter X.env x=pure x):DE fa X (.ListComp elt [⟨tg,iter,[c],0⟩] scope pos) (zb3 m own.length t gw (gIf gc (zb7 ge))):=
  zwh m (W:=[]) (body:=fun a env=>isTrue c env (eval c env) >>= fun ok=>if ok=true then (eval elt env >>= fun x=>call (.builtin "list.append") [.ref a,x] >>= fun _=>pure ()) else pure ()) S hc hi ⟨pg,fun cl C fp s H a=>db_if (ht cl C fp s H) (zms (he cl C fp s H))⟩ (fun it a env=>turn_if elt tg iter c scope pos (.ref it) (.ref a) env) (fun i h=>nomatch h) (by simpa using zji hn) hs
variable {i:Nat}{y:Str}{py spos:Pos}
theorem zxt (m:Bool) (S:zer X own bn scope) (hc:X.calm=true) (hi:DI fa X tg iter gw) (pg:∀ cl C fp s H,PG (zbz X own bn scope cl C fp s H) tg (gT fa X.K t)) (ht:∀ cl C fp s H,DT fa (zbz X own bn scope cl C fp s H) c gc) (he:∀ cl C fp s H,DE fa (zbz X own bn scope cl C fp s H) elt ge)
    (hn:(slots t).all (· < own.length)=true) (hs:∀ x,foldedSetIterable iter X.env x=pure x) (hN:X.N.Nodup) (hy:X.N[i]?=some y) (hl:X.env.scope.names.lookup y=some .local)
    (hsw:swapsWith (.ListComp elt [⟨tg,iter,[c],0⟩] scope pos) (some (.Name y py)) spos.line X.env=pure true):DS fa X (.Assign [.Name y py] (.ListComp elt [⟨tg,iter,[c],0⟩] scope pos) spos) (zav (.one i) (zb3 m own.length t gw (gIf gc (zb7 ge)))):=
  zvc m (W:=[]) (body:=fun a env=>isTrue c env (eval c env) >>= fun ok=>if ok=true then (eval elt env >>= fun x=>call (.builtin "list.append") [.ref a,x] >>= fun _=>pure ()) else pure ()) S hc hi ⟨pg,fun cl C fp s H a=>db_if (ht cl C fp s H) (zms (he cl C fp s H))⟩ (fun it a env=>turn_if elt tg iter c scope pos (.ref it) (.ref a) env) (fun i h=>nomatch h) (by simpa using zji hn) hs hN hy hl hsw
theorem z0l (m:Bool) (S:zer X own bn scope) (hc:X.calm=true) (hi:DI fa X tg iter gw) (pg:∀ cl C fp s H,PG (zbz X own bn scope cl C fp s H) tg (gT fa X.K t)) (hi2:∀ cl C fp s H,DI fa (zbz X own bn scope cl C fp s H) t2 i2 gw2) (pg2:∀ cl C fp s H,PG (zbz X own bn scope cl C fp s H) t2 (gT fa X.K u)) (he:∀ cl C fp s H,DE fa (zbz X own bn scope cl C fp s H) elt ge)
    (hn:(slots t++slots u).all (· < own.length)=true) (hW:(slots u).all (fun i=>!(slots t).contains i)=true) (hs:∀ x,foldedSetIterable iter X.env x=pure x) (hs2:∀ cl C fp s H,∀ x,foldedSetIterable i2 (zbz X own bn scope cl C fp s H).env x=pure x)
    (hN:X.N.Nodup) (hy:X.N[i]?=some y) (hl:X.env.scope.names.lookup y=some .local)
    (hsw:swapsWith (.ListComp elt [⟨tg,iter,[],0⟩,⟨t2,i2,[],0⟩] scope pos) (some (.Name y py)) spos.line X.env=pure true):DS fa X (.Assign [.Name y py] (.ListComp elt [⟨tg,iter,[],0⟩,⟨t2,i2,[],0⟩] scope pos) spos) (zav (.one i) (zb3 m own.length t gw (zli u gw2 (zb7 ge)))):=
  zvc m (W:=slots u) (body:=fun a env=>eval i2 env >>= fun x=>standAt i2.pos >>= fun _=>foldedSetIterable i2 env x >>= fun x=>holding [x] (pyIter x) >>= fun j=>runOwn (.compStart (.ListComp elt [⟨tg,iter,[],0⟩,⟨t2,i2,[],0⟩] scope pos) 1 j (.ref a) env) env >>= fun _=>pure ())
    S hc hi ⟨pg,fun cl C fp s H a=>db_gen (X:=zbz X own bn scope cl C fp s H) rfl hc (hi2 cl C fp s H) (pg2 cl C fp s H) (he cl C fp s H) (hs2 cl C fp s H)⟩ (fun it a env=>zxf elt tg iter t2 i2 scope pos (.ref it) (.ref a) env) (zu6 hW) (zji hn) hs hN hy hl hsw
theorem z0u {x:Str}{i:Int} (hg:Gl X x) (hm:∃ t,X.mg x=some (.int i t)) (hd:(x==("__debug__":Str))=false):DE fa X (.Name x pos) (gC (.int i)):=let ⟨_,h⟩:=hm;r_gint hg h hd
theorem z0v {x:Str}{b:PySem.Expr}{gb:GE}{p:Pos}{fs:List (Str×Nat)} (h:∃ ad kvs,X.mg x=some (.ref ad) /\ zgy X.K X.w.params ad kvs /\ ze4 fa kvs fs) (hg:Gl X x) (hdb:(x==("__debug__":Str))=false) (hb:DE fa X b gb) (hs:zg8 b):DE fa X (.Subscript (.Name x p) b pos) (zjo fs gb):=
  let ⟨_,_,h1,h2,h3⟩:=h;r_dget h2 h3 hg h1 hdb hb hs
theorem z00 {x:Str}{a:PySem.Expr}{ga:GE}{p:Pos}{fs:List (Str×Nat)} (h:∃ ad kvs,X.mg x=some (.ref ad) /\ zgy X.K X.w.params ad kvs /\ ze4 fa kvs fs) (hg:Gl X x) (hdb:(x==("__debug__":Str))=false) (ha:DE fa X a ga) (hmk:behindInMarks .NotIn (.Name x p)=false):DT fa X (.Compare a [.NotIn] [.Name x p] pos) (zas (zjn fs ga)):=
  let ⟨_,_,h1,h2,h3⟩:=h;q_dnot h2 h3 hg h1 hdb ha hmk
end
end LD
namespace LD
open PySem PySem.Spec PyProof.Rows L2
theorem zhs {α β:Type}{f g:α->Option β}:∀ {l:List α},(∀ x∈l,f x=g x)->l.filterMap f=l.filterMap g
  | [],_=>rfl
  | a :: l, h => by
    rw [List.filterMap_cons,List.filterMap_cons,h a List.mem_cons_self,zhs (l:=l) fun x hx=>h x (List.mem_cons_of_mem _ hx)]
theorem zn9 (n:Nat) (xs:List Value) (h:xs.length=n):(List.range n).filterMap (fun (k:Nat)=>xs[n - 1 - k]?)=xs.reverse:=by
  have e:∀ k∈List.range n,xs[n - 1 - k]?=some (xs.reverse.getD k .none):=fun k hk=>by
    have hk:=List.mem_range.mp hk
    rw [List.getD_eq_getElem?_getD,List.getElem?_reverse (by omega),h,List.getElem?_eq_getElem (by omega)]
    simp
  have:(List.range n).filterMap (fun (k:Nat)=>xs[n - 1 - k]?)=(List.range n).map fun k=>xs.reverse.getD k .none:=by
    rw [zhs (g:=fun k=>some (xs.reverse.getD k .none)) e]
    simp
  rw [this]
  refine List.ext_getElem? fun i=>?_
  rw [List.getElem?_map]
  by_cases hi:i < n
  · rw [List.getElem?_range hi]
    show some (xs.reverse.getD i .none)=_
    rw [List.getD_eq_getElem?_getD,List.getElem?_eq_getElem (show i < xs.reverse.length by simp;omega)]
    simp
  · rw [List.getElem?_eq_none (by simp;omega),List.getElem?_eq_none (by simp;omega)]
    rfl
theorem zos (its:List Value):slicePick its.toArray none none (some (-1))=its.reverse.toArray:=by
  unfold slicePick sliceBounds sliceRange
  simp only [Option.getD_some,List.size_toArray]
  have e1:¬ ((-1:Int) > 0):=by decide
  simp only [e1,if_false]
  have e2:(if (its.length:Int) - 1 > -1 then ((its.length:Int) - 1 - -1 - -1 - 1) / (- -1) else 0).toNat=its.length:=by
    split
    · simp
    · omega
  rw [e2,List.filterMap_map,<- zn9 its.length its rfl]
  congr 1
  refine zhs fun k hk=>?_
  have hk:=List.mem_range.mp hk
  have e3:((its.length:Int) - 1+-1 * (k:Int)).toNat=its.length - 1 - k:=by omega
  show its.toArray[((its.length:Int) - 1+-1 * (k:Int)).toNat]?=_
  rw [e3]
  simp
section
variable {prog:Program}{w:World}{A:Around}{E:Value->Shared->Prop}{s:Shared}
theorem zk2 {t sl:Addr}{items:Array Value}{k:Tok}{Q:Value->Shared->Prop} (ht:IsTup s.heap t items) (hs:s.heap.IsSliceOf sl .none .none (.int (-1) k))
    (h:Q (.ref s.heap.objs.size) {s with heap:=s.heap.push {cls:=.type "tuple",data:=.seq items.toList.reverse.toArray}})
    (hsz:items.size≤sizeLine):wpAny (model prog w) A (getItem (.ref t) (.ref sl)) Q E s:=by
  have htake:sizeOk (.seq items.toList.reverse.toArray):=by
    show items.toList.reverse.toArray.size≤sizeLine
    simpa using hsz
  obtain ⟨os,hos,hcs,hds⟩:=id hs
  have hTs:s.TypeIs (.ref sl) "slice":=⟨os,hos,hcs⟩
  unfold getItem
  try with_reducible refine wpAny_holding ?_
  first | refine wpAny_bind (wpAny_pure ?_) | skip
  refine wpAny_bind (wpAny_sequenceKey ht.typeIs (by decide) ?_)
  refine wpAny_bind (wpAny_callSpecial?_slot (name:=Str.ofString "__getitem__") ht.typeIs PyProof.Rows.slot_tuple_getitem
    (wpAny_call_entry PyProof.Rows.slot_tuple_getitem ht.typeIs entry_tuple_getitem ?_ (args_tuple_getitem _ _)))
  show wpAny _ _ (Builtin.Tuple.tupleItemsOf (.ref t) >>= _) _ _ s
  refine wpAny_bind (tupleItemsOf_ ht ?_)
  refine wpAny_bind (wpAny_typeOf hTs ?_)
  rw [if_pos (by decide)]
  unfold Builtin.Slice.sliceApplied Builtin.Slice.sliceFields
  refine wpAny_bind (wpAny_bind (wpAny_bind (wpAny_field hos hds (x:=.none) rfl (wpAny_bind (wpAny_field hos hds (x:=.none) rfl (wpAny_bind (wpAny_field hos hds (x:=.int (-1) k) rfl (wpAny_pure ?_))))))))
  refine wpAny_bind (slicePart_int ?_)
  show wpAny _ _ (if ((-1:Int)==0)=true then _ else _) _ _ s
  rw [if_neg (by decide)]
  refine wpAny_bind (slicePart_none (wpAny_bind (slicePart_none (wpAny_bind (wpAny_pure ?_)))))
  have ea:Builtin.Slice.sliceAdjust none none (-1) (items.size:Int)=((items.size:Int) - 1,-1):=by simp [Builtin.Slice.sliceAdjust]
  have ep:Builtin.Slice.slicePlaces ((items.size:Int) - 1) (-1) (-1)=items.size:=by
    unfold Builtin.Slice.slicePlaces
    rw [if_neg (by decide)]
    split
    · simp
    · omega
  show wpAny _ _ (match Builtin.Slice.sliceAdjust none none (-1) (items.size:Int) with | (lo,hi)=>pure (lo,(-1:Int),Builtin.Slice.slicePlaces lo hi (-1))) _ _ s
  rw [ea]
  show wpAny _ _ (pure ((items.size:Int) - 1,(-1:Int),Builtin.Slice.slicePlaces ((items.size:Int) - 1) (-1) (-1))) _ _ s
  rw [ep]
  refine wpAny_pure ?_
  have hno:¬ ((((items.size:Int) - 1)==0&&(-1:Int)==1&&items.size==items.size)=true):=by simp
  show wpAny _ _ (if (((items.size:Int) - 1)==0&&(-1:Int)==1&&items.size==items.size)=true then _ else _) _ _ s
  rw [if_neg hno]
  have pick:((List.range items.size).filterMap fun (m:Nat)=>items[(((items.size:Int) - 1)+(m:Int) * -1).toNat]?).toArray=items.toList.reverse.toArray:=by
    rw [<- zn9 items.size items.toList (by simp)]
    congr 1
    refine zhs fun m hm=>?_
    have hm:=List.mem_range.mp hm
    have e3:((items.size:Int) - 1+(m:Int) * -1).toNat=items.size - 1 - m:=by omega
    rw [e3]
    simp
  rw [pick]
  first
    | exact wpAny_bind (m:=Builtin.Tuple.tupleExact _) (wpAny_newObj_type (wpAny_pure ⟨_,rfl,wpAny_pure h⟩) htake)
    | exact wpAny_bind (m:=Builtin.Tuple.tupleExact _) (wpAny_newObj_type (wpAny_bind (wpAny_pure (wpAny_pure ⟨_,rfl,wpAny_pure h⟩))) htake)
    | exact wpAny_bind (wpAny_bind (m:=Builtin.Tuple.tupleExact _) (wpAny_newObj_type (wpAny_pure (wpAny_pure ⟨_,rfl,wpAny_pure h⟩)) htake))
    | exact wpAny_bind (wpAny_bind (m:=Builtin.Tuple.tupleExact _) (wpAny_newObj_type (wpAny_pure ⟨_,rfl,wpAny_pure h⟩) htake))
end
section
variable {fa:Fa}{X:Cx}{a st:PySem.Expr}{ga:GE}{pos p2:Pos}
def revD (m:Bool) (x:D) (M:Mem):Res D:=match x with
  | .tup xs=>.ok (.tup xs.reverse) M
  | x => match rdD M x with
    | some xs=>zb5 m xs.reverse M
    | none=>.bad
def gRev (m:Bool) (a:GE):GE:=fun ρ M=>(a ρ M).bind fun x M=>revD m x M
def rRev (K:PySem.W.Frag):V->Hp->VK->Prop:=fun x H Q=>∃ a xs,x=.ref a /\ ((SqL K H a xs /\ ∀ p,H p=none->Q (.ref p) (upd H p (.lst xs.reverse))) \/ (SqT K H a xs /\ ∀ p,H p=none->Q (.ref p) (upd H p (.tup xs.reverse))))
theorem zk7:∀ {xs:List V}{us:List Value},Vals xs us->Vals xs.reverse us.reverse
  | _,_,.nil=>.nil
  | _, _, .cons p r => by
    rw [List.reverse_cons,List.reverse_cons]
    exact (zk7 r).append (.cons p .nil)
theorem pe_rev {ta:TE} (ha:PE X a ta) {ts:TE} (hst:PE X st ts) :
    PE X (.Subscript a (.Slice none none (some st) p2) pos) (fun σ H Q=>ta σ H fun x H1=>ts σ H1 fun y H2=>y=.int (-1) /\ rRev X.K x H2 Q):=by
  intro pins s σ H Q I h
  refine Subscript_ (thn (ha pins s σ H _ I h) fun v s1 ⟨x,H1,I1,r1,q1⟩=>?_)
  refine wpAny_Slice ?_
  rw [evalPart_none]
  refine wpAny_pure ?_
  refine wpAny_pure ?_
  rw [evalPart_some]
  refine thn (hst pins s1 σ H1 _ I1 q1) fun vu s3 ⟨y,H3,I3,r3,ey,q3⟩=>?_
  subst ey
  obtain ⟨k,rfl⟩:=r3
  have I4:Inv X pins σ H3 {s3 with heap:=s3.heap.push {cls:=.type "slice",data:=.fields #[.none,.none,.int (-1) k]}}:=I3.kept (t':=s3.toks) fun b ob q=>Heap.get?_push_of_some _ q
  have hsl:(s3.heap.push {cls:=.type "slice",data:=.fields #[.none,.none,.int (-1) k]}).IsSliceOf s3.heap.objs.size .none .none (.int (-1) k):=Heap.IsSliceOf.new ..
  obtain ⟨b,xs,rfl,q⟩:=q3
  cases r1
  have key:∃ T id,typeLookup (.type T) "__getitem__"=pure (some (.builtin id)) /\ Shared.TypeIs {s3 with heap:=s3.heap.push {cls:=.type "slice",data:=.fields #[.none,.none,.int (-1) k]}} (.ref b) T /\ wpAny (model X.prog X.w) X.A (getItem (.ref b) (.ref s3.heap.objs.size)) (EP X pins σ Q) X.xe {s3 with heap:=s3.heap.push {cls:=.type "slice",data:=.fields #[.none,.none,.int (-1) k]}}:=by
    rcases q with ⟨hx,q⟩ | ⟨hx,q⟩
    · obtain ⟨its,r,ht,hz⟩:=I4.list hx
      have hlen:=r.length
      refine ⟨"list",_,slot_list_getitem.lookup,ht.isList.typeIs,?_⟩
      refine wpAny_getItem_list_slice ht.isList hsl .none .none (.int (-1) k) (by decide) ?_ (by rw [List.size_toArray]<;>omega)
      rw [zos]
      refine ⟨.ref _,_,I4.laid (t':=s3.toks) (o:=.lst xs.reverse) (fun b ob q=>Heap.get?_push_of_some _ q) (Nat.le_refl _) ?_,rfl,q _ (I4.hok.fresh (Nat.le_refl _))⟩
      exact ⟨by simpa using hz,_,0,zk7 r,Heap.get?_push_size _ rfl⟩
    · obtain ⟨its,r,ht,hz⟩:=I4.tuple hx
      have hlen:=r.length
      refine ⟨"tuple",_,PyProof.Rows.slot_tuple_getitem.lookup,ht.typeIs,?_⟩
      refine zk2 ht hsl ?_ (by rw [List.size_toArray,<- hlen];exact hz)
      refine ⟨.ref _,_,I4.laid (t':=s3.toks) (o:=.tup xs.reverse) (fun b ob q=>Heap.get?_push_of_some _ q) (Nat.le_refl _) ?_,rfl,q _ (I4.hok.fresh (Nat.le_refl _))⟩
      exact ⟨by simpa using hz,_,zk7 r,IsTup.new _ _⟩
  obtain ⟨T,id,hT,ht,hg⟩:=key
  show wpAny (model X.prog X.w) X.A (subscriptTail a (.Slice none none (some st) p2) (.ref b) (.ref s3.heap.objs.size)) (EP X pins σ Q) X.xe {s3 with heap:=s3.heap.push {cls:=.type "slice",data:=.fields #[.none,.none,.int (-1) k]}}
  exact tail_any (ops:=[.ref b,.ref s3.heap.objs.size]) ht hT hg (by with_unfolding_all rfl)
theorem r_rev (m:Bool) {pc pu:Pos}{k:Nat} (ha:DE fa X a ga):DE fa X (.Subscript a (.Slice none none (some (.UnaryOp .USub (.Constant (.int 1) k pc) pu)) p2) pos) (gRev m ga):=
  zco (pe_rev ha (pe_un zus zvj)) fun σ H Q ⟨μ,ρ,M,hE,hM,h⟩=>t1 hE hM h fun x M1 v H1 μ1 x1 hE1 hM1 r1 h1=>by
    refine ⟨1,rfl,rfl,?_⟩
    have lst:∀ (ds:List D) (b:Addr) (vs:List V),SqL X.K H1 b vs->za3 fa X.K μ1 H1 ds vs->okE (zb5 m ds.reverse M1) (zbt fa X.K μ H Q)->rRev X.K (.ref b) H1 Q:=fun ds b vs hs hr h1=>by
      obtain ⟨_,q⟩:=zgf hM1 hr.reverse (okW h1 x1)
      exact ⟨b,vs,rfl,.inl ⟨hs,q⟩⟩
    cases x with
    | tup ds =>
      obtain ⟨b,vs,rfl,hs,hr⟩:=r1
      exact ⟨b,vs,rfl,.inr ⟨hs,zg0 hM1 hr.reverse (zbt.ext h1 x1)⟩⟩
    | lst ds =>
      obtain ⟨b,vs,rfl,hs,hr⟩:=r1
      exact lst ds b vs (SqL.of hs.1) hr h1
    | frz ds =>
      obtain ⟨b,vs,rfl,hs,hr⟩:=r1
      exact lst ds b vs (hs.elim (fun ⟨o,z⟩=>.inl (.inr ⟨o,z⟩)) .inr) hr h1
    | cell k =>
      obtain ⟨b,rfl,hk⟩:=r1
      obtain ⟨ds,vs,e,hH,hr⟩:=hM1.mu_lt hk
      have h1:okE (match M1[k]? with | some xs=>zb5 m xs.reverse M1 | none=>.bad) (zbt fa X.K μ H Q):=h1
      rw [e] at h1
      exact lst ds b vs (SqL.of hH) hr h1
    | _=>exact h1.elim
def sPar (i j:Nat) (gs:GA):GS:=fun ρ M=>(gs ρ M).bind fun ds M=>match ds with
  | [a,b]=>.ok (.next ((ρ.set i (some a)).set j (some b))) M
  | _=>.bad
def gInt (a:GE):GE:=fun ρ M=>(a ρ M).bind fun x M=>match x with
  | .int i=>.ok (.int i) M
  | .bl k=>.ok (.int (if k then 1 else 0)) M
  | _=>.bad
end
end LD
namespace LD
open PySem PySem.Spec PyProof.Rows L2
theorem us1 {α:Type}{p:List α->Prop} (h:∀ a,p [a]) (us:List α) (hl:us.length=1):p us:=by
  obtain ⟨a,rfl⟩:=List.length_eq_one_iff.mp hl;exact h a
theorem us2 {α:Type}{p:List α->Prop} (h:∀ a b,p [a,b]):∀ (us:List α) (hl:us.length=2),p us
  | [a,b],_=>h a b
theorem us3 {α:Type}{p:List α->Prop} (h:∀ a b c,p [a,b,c]):∀ (us:List α) (hl:us.length=3),p us
  | [a,b,c],_=>h a b c
theorem us4 {α:Type}{p:List α->Prop} (h:∀ a b c d,p [a,b,c,d]):∀ (us:List α) (hl:us.length=4),p us
  | [a,b,c,d],_=>h a b c d
theorem mk_fn {K:PySem.W.Frag}{h:Heap}{mg:Str->Option Value}{f:Addr}{x:Str}{st:PySem.Stmt}{oc:Value}{od an:Option Addr}{osl:Array (Option Value)}{kV doc pm cdv ct:Value} (X:K.In h) (G:h.Ns mainGlobals mg)
    (a:PySem.W.nsIn K mainGlobals x=some (some (.ref f))) (l:K.lookup f=some ⟨oc,od,.func (PySem.W.fnOf x x (zhx st) (za9 st) (zag st) .none kV doc pm an cdv ct),osl⟩)
    (c:PySem.W.codeIn K cdv x=true) (k:PySem.W.keepIn K (.ref f)=true):∃ f fd,mg x=some (.ref f) /\ Fun K x x st f fd:=⟨f,_,PySem.W.mg_of X G a,fun_mk l c k⟩
theorem zj8 {K:PySem.W.Frag}{h:Heap}{mg:Str->Option Value}{x:Str}{i:Int}{t:Tok} (X:K.In h) (G:h.Ns mainGlobals mg) (a:PySem.W.nsIn K mainGlobals x=some (some (.int i t))):∃ t,mg x=some (.int i t):=⟨t,PySem.W.mg_of X G a⟩
theorem zdc {K:PySem.W.Frag}{h:Heap}{mg:Str->Option Value}{x:Str}{f:Addr} (X:K.In h) (G:h.Ns mainGlobals mg) (a:PySem.W.nsIn K mainGlobals x=some (some (.ref f))):mg x=some (.ref f):=PySem.W.mg_of X G a
theorem zfn {K:PySem.W.Frag}{h:Heap}{mg:Str->Option Value}{x:Str} (X:K.In h) (G:h.Ns mainGlobals mg) (a:PySem.W.nsIn K mainGlobals x=some none):mg x=none:=PySem.W.mg_none_of X G a
theorem kd_nil {P:Params}:Paired (zln P) [] []:=.nil
theorem zkq {P:Params}{x:Str}{t:Tok}{a:Addr}{es:List DictEntry}{kvs:List (Str×Addr)} (h:Paired (zln P) es kvs):Paired (zln P) (⟨PyData.keyHash P x,.str x t,.ref a⟩::es) ((x,a)::kvs):=.cons ⟨t,rfl⟩ h
def spLaw (K:PySem.W.Frag):Sp:=fun vs H Q _=>∃ (a:Addr) (ns:List Int),vs=[.ref a] /\ SqL K H a (ns.map V.int) /\ Only H /\ ns.length≤63 /\ ∀ H',Q (.bl true) H'
theorem law_fn {fa:Fa}{P:Program}{w:World}{K:PySem.W.Frag}{mg:Str->Option Value}{base:Heap}{Pg:Nat->Option Df}{n f:Nat}{ad:Addr}{d:Df}{fd:FuncData}{N:List Str}{st:PySem.Stmt}{x qual y:Str} (h:∀ f d,Pg f=some d->zpj fa P w K mg base f d)
    (hl:∀ ns:List Int,ns.length≤63->∃ M,zaq Pg (n+1) f [.frz (ns.map D.int)] []=.ok (.bl true) M) (e:Pg f=some d) (F:Fun K x qual st ad fd) (S:zbd N [y] (zag st)) (hs:d.slots=N.length)
    (hbody:∀ (call:Call) (n:Nat) (cdv:Value) (A:Around) (outer:List PySem.Env) (s:Shared) (H:Hp) (E:XK),(∀ f,ze7 fa P w K mg base n f (call f))->zbj n (A.deeper (envOfC qual (zag st) s.heap.objs.size ad cdv))->
      DSs fa (zb0 (CXE P w) P w K mg base N qual (zag st) ad cdv A outer s H E) (za9 st) (d.body call)):zgi P w K mg base (CXE P w) (n+1) ad fd [y] (spLaw K):=by
  have eq:∀ ds M,zaq Pg (n+1) f ds M=zgg (zaq Pg n) d ds M:=fun ds M=>by show (match Pg f with | none=>Res.bad | some d=>zgg (zaq Pg n) d ds M)=_;rw [e]
  refine zsp F S (fun vs H Q E hsp=>?_) fun cdv A outer s H vs Q E hr hsp=>⟨_,hbody (zaq Pg n) n cdv A outer s H E (zrf h n) hr,?_⟩
  · obtain ⟨a,ns,rfl,_⟩:=hsp;rfl
  · obtain ⟨a,ns,rfl,hS,hO,hn,q⟩:=hsp
    obtain ⟨M',e'⟩:=hl ns hn
    rw [eq] at e'
    have rp:za3 fa K ⟨fun _=>none,[]⟩ H [.frz (ns.map D.int)] [.ref a]:=by
      refine ⟨.ref a,[],rfl,⟨a,ns.map V.int,rfl,?_,za3.ints ns⟩,rfl⟩
      rcases hS with (z | ⟨o,z⟩) | z
      · rcases hO a with y | ⟨o,xs,y⟩
        · rw [y] at z;cases z
        · rw [y] at z;cases z
      · exact .inl ⟨o,z⟩
      · exact .inr z
    refine zok (μ:=⟨fun _=>none,[]⟩) (M:=[]) hs ⟨fun k ds z=>by simp at z,fun _ _=>rfl,(fun _ _ _ z=>nomatch z),(fun _ z=>nomatch z)⟩ rp ?_
    rw [e']
    intro v H' μ' _ _ r
    obtain rfl:v=.bl true:=r
    exact q H'
theorem z0o {o:Option Value}{a b:Addr} (h:o=some (.ref a)) (h':o=some (.ref b)):a=b:=by rw [h] at h';cases h';rfl
theorem zjq {fa:Fa}{x:Str}{a b:Addr}{i:Nat}{kvs:List (Str×Addr)}{fs:List (Str×Nat)}{o:Option Value} (h:fa i=some a) (h1:o=some (.ref a)) (h2:o=some (.ref b)) (r:ze4 fa kvs fs):ze4 fa ((x,b)::kvs) ((x,i)::fs):=
  .cons ⟨rfl,by rw [<- z0o h1 h2];exact h⟩ r
theorem z1n {K:PySem.W.Frag}{h:Heap}{mg:Str->Option Value}{x:Str}{ad:Addr}{P:Params}{es:Array DictEntry}{n:Nat}{kvs:List (Str×Addr)}{fa:Fa}{fs:List (Str×Nat)} (X:K.In h) (G:h.Ns mainGlobals mg) (a:PySem.W.nsIn K mainGlobals x=some (some (.ref ad)))
    (l:K.lookup ad=some {cls:=.type "dict",data:=.dict es n}) (he:Paired (zln P) es.toList kvs) (nd:(kvs.map (·.1)).Nodup) (ns:(ad==sysModules)=false) (dk:ze4 fa kvs fs):∃ ad kvs,mg x=some (.ref ad) /\ zgy K P ad kvs /\ ze4 fa kvs fs:=
  ⟨ad,kvs,PySem.W.mg_of X G a,⟨⟨es,n,l,he⟩,nd,ns⟩,dk⟩
end LD
namespace LD
open PySem PySem.Spec PyProof.Rows L2
theorem zux (lo hi:Option Int) (n:Nat):Builtin.Str.strSliceIndices lo hi 1 n=(List.range (HT.sIx n n hi - HT.sIx n 0 lo)).map (HT.sIx n 0 lo+·):=by
  rw [<- sliceRange_one]
  unfold Builtin.Str.strSliceIndices
  simp only [show (1:Int) > 0 by decide,if_true]
  congr 1
  · cases lo with
    | none=>rfl
    | some i =>
      simp only [HT.sIx]
      split<;>omega
  · cases hi with
    | none=>rfl
    | some i =>
      simp only [HT.sIx]
      split<;>omega
def zg6 (z:Str) (l h:Nat):Str:=⟨(cut z.cps.toList l h).toArray⟩
section
variable {fa:Fa}{X:Cx}{a b:PySem.Expr}{ga gb:GE}{pos p2:Pos}{tg:PySem.Expr}
theorem zqi {v:Value}{o:Option Int} (h:IsPart v o):∃ p:Option (Int×Tok),v=partValue p /\ p.map (·.1)=o:=by
  cases h with
  | none=>exact ⟨none,rfl,rfl⟩
  | int i t=>exact ⟨some (i,t),rfl,rfl⟩
theorem sl_str:SlR X (fun x lo hi H Q=>∃ z:Str,x=.str z /\ z.cps.size≤sizeLine /\ Q (.str (zg6 z (HT.sIx z.cps.size 0 lo) (HT.sIx z.cps.size z.cps.size hi))) H):=by
  intro pins s σ H x v vl vu lo hi sl Q I rx hs pl pu h
  obtain ⟨z,rfl,hz,q⟩:=h
  obtain ⟨t,rfl⟩:=rx
  obtain ⟨l,rfl,el⟩:=zqi pl
  obtain ⟨u,rfl,eu⟩:=zqi pu
  refine ⟨"str",_,slot_str_getitem.lookup,typeIs_str s z t,?_⟩
  refine wpAny_getItem_str_slice (l:=l) (u:=u) (st:=none) hs rfl ?_
  have e:(slicePicked z l u none).filterMap (z.cps[·]?)=cut z.cps.toList (HT.sIx z.cps.size 0 lo) (HT.sIx z.cps.size z.cps.size hi):=by
    unfold slicePicked
    rw [el,eu]
    show (Builtin.Str.strSliceIndices lo hi 1 z.cps.size).filterMap _=_
    rw [zux,pick_run]
    rfl
  unfold sliceMade
  split
  · next c=>
    have c':(slicePicked z l u none).length=z.length:=by simpa using c
    have e2:zg6 z (HT.sIx z.cps.size 0 lo) (HT.sIx z.cps.size z.cps.size hi)=z:=by
      have hl:HT.sIx z.cps.size z.cps.size hi - HT.sIx z.cps.size 0 lo=z.cps.size:=by
        unfold slicePicked at c'
        rw [el,eu] at c'
        have c':(Builtin.Str.strSliceIndices lo hi 1 z.cps.size).length=z.cps.size:=c'
        rw [zux] at c'
        simpa using c'
      have hh:HT.sIx z.cps.size z.cps.size hi≤z.cps.size:=by
        cases hi with
        | none=>exact Nat.le_refl _
        | some i=>simp only [HT.sIx];split<;>omega
      have h0:HT.sIx z.cps.size 0 lo=0 \/ z.cps.size=0:=by omega
      unfold zg6 cut
      rw [hl]
      rcases h0 with h0 | h0
      · rw [h0]
        rcases z with ⟨zs⟩
        show (⟨(List.take zs.size (List.drop 0 zs.toList)).toArray⟩:Str)=⟨zs⟩
        rw [List.drop_zero,List.take_of_length_le (by simp)]
      · have:z.cps=#[]:=Array.eq_empty_of_size_eq_zero h0
        rcases z with ⟨zs⟩
        simp at this
        subst this
        simp
    rw [e2] at q
    exact ⟨.str z,H,I,⟨t,rfl⟩,q⟩
  · rw [e]
    refine ⟨?_,.str _,H,I.tok _,⟨_,rfl⟩,q⟩
    have:(cut z.cps.toList (HT.sIx z.cps.size 0 lo) (HT.sIx z.cps.size z.cps.size hi)).length≤z.cps.size:=by
      unfold cut
      rw [List.length_take,List.length_drop]
      simp
      omega
    show (cut z.cps.toList _ _).toArray.size≤sizeLine
    simp at this ⊢
    omega
def zks (hl hh:Bool) (a lo hi:GE):GE:=fun ρ M=>(a ρ M).bind fun x M=>(lo ρ M).bind fun l M=>(hi ρ M).bind fun h M=>if zc7 hl l&&zc7 hh h then (match x with
  | .str z => if z.cps.size ≤ sz then (match sIx z.cps.size 0 l, sIx z.cps.size z.cps.size h with
    | some l,some h=>.ok (.str (zg6 z l h)) M
    | _,_=>.bad) else .bad
  | _=>.bad) else .bad
theorem r_slcS (hl hh:Bool) {lo hi:Option PySem.Expr}{gl gh:GE} (ha:DE fa X a ga) (hlo:DO fa X lo hl gl) (hhi:DO fa X hi hh gh):DE fa X (.Subscript a (.Slice lo hi none p2) pos) (zks hl hh ga gl gh):=
  zco (zqh sl_str ha hlo hhi) fun σ H Q ⟨μ,ρ,M,hE,hM,h⟩=>t1 hE hM h fun x M1 v H1 μ1 x1 hE1 hM1 r1 h1=>by
    obtain ⟨l,M2,e2,h2⟩:=zbe h1
    obtain ⟨u,M3,e3,h3⟩:=zbe h2
    split at h3
    · next c=>
      rw [Bool.and_eq_true] at c
      obtain ⟨ol,el⟩:=part_of c.1
      obtain ⟨ou,eu⟩:=part_of c.2
      refine ⟨μ1,ρ,M1,hE1,hM1,?_⟩
      rw [e2]
      refine ⟨ol,c.1,el,fun H2 μ2 x2 hM2=>⟨μ2,ρ,M2,hE1.ext x2,hM2,?_⟩⟩
      rw [e3]
      refine ⟨ou,c.2,eu,fun H3 μ3 x3 hM3=>?_⟩
      cases x with
      | str z =>
        obtain rfl:v=.str z:=r1
        dsimp only at h3
        split at h3
        · next hz=>
          simp only [zlc,el,eu,Option.map_some] at h3
          exact ⟨z,rfl,by rw [<- ze3];exact hz,zbm (v:=.str _) hM3 (zbt.ext h3 ((x1.trans x2).trans x3)) rfl⟩
        · exact h3.elim
      | _=>exact h3.elim
    · exact h3.elim
def ztz (a b:GE):GE:=fun ρ M=>(a ρ M).bind fun x M=>(b ρ M).bind fun y M=>match x,y with
  | .bl k,.bl true=>.ok (.bl (!k)) M
  | _,_=>.bad
def signs (z:Str):List D:=z.cps.toList.map fun c=>.str ⟨#[c]⟩
def Its (z:Str):It:=⟨fun i _=>i < z.cps.size,fun i H x H'=>H'=H /\ ∃ c,z.cps[i]?=some c /\ x=.str ⟨#[c]⟩,fun i _=>z.cps.size≤i⟩
theorem zpq {P:Program}{w:World}{K:PySem.W.Frag}{n:String} (hn:["enumerate","zip","dict_itemiterator","dict_reverseitemiterator","odict_iterator","itertools.zip_longest","itertools.pairwise"].contains n=false) (it:Addr) (z:Str) (t:Tok)
    (W:∀ A':Around,A'.handled=none->Walks P w A' it [it] [it] z.cps.size (SignAt z) (fun i h=>h.IsStrIter it n z t i))
    (S:∀ (A:Around) (i:Nat) (s:Shared) (Q:Value->Shared->Prop) (E:Value->Shared->Prop),s.heap.IsStrIter it n z t i->Q (.ref it) s->wpAny (model P w) A (pyIter (.ref it)) Q E s)
    (D:∀ (A:Around) (hh:A.handled=none) (i:Nat) (s:Shared) (Q:Option Value->Shared->Prop) (E:Value->Shared->Prop),s.heap.IsStrIter it n z t i->z.cps.size≤i->(∀ h',(∀ b o,b≠it->s.heap.get? b=some o->h'.get? b=some o)->Q none {s with heap:=h'})->wpAny (model P w) A (pyNext (.ref it)) Q E s) :
    Turn P w K tg (Its z) [it] it (fun i h=>h.IsStrIter it n z t i) where
  mem:=by simp
  obj:=fun i h st b hb=>by
    have e:b=it:=by simpa using hb
    subst e
    obtain ⟨o,e,c,d⟩:=st
    exact ⟨o,e,fun v z=>by rw [d] at z;cases z⟩
  keep:=fun i h h' st k=>let ⟨o,e,r⟩:=st;⟨o,k it (by simp) o e,r⟩
  item:=by
    intro X hP hw hK hc i pins s σ H E I hf st hg
    subst hP hw hK
    obtain ⟨f0,f1,f2,f3,f4,f5⟩:=hf it (by simp)
    refine (W X.A (I.ok.hd hc)).item i s _ _ hg st fun v h' tk hv st' kk=>?_
    obtain ⟨c,u,hc',rfl⟩:=hv
    have I1:Inv X pins σ H {s with heap:=h',toks:=tk}:=I.turned (fun b o hb e=>kk b o (by simpa using hb) e) f0 f1 f3 f4 f5
    obtain ⟨o,e,co,d⟩:=id st'
    exact ⟨_,rfl,zpg (s:={s with heap:=h',toks:=tk}) e co d hn ⟨.str ⟨#[c]⟩,H,I1,⟨u,rfl⟩,⟨rfl,c,hc',rfl⟩,st',fun b hb=>(hf b hb).1⟩⟩
  done:=by
    intro X hP hw hK hc i pins s σ H E I hf st hg
    subst hP hw hK
    obtain ⟨f0,f1,f2,f3,f4,f5⟩:=hf it (by simp)
    exact D X.A (I.ok.hd hc) i s _ _ st hg fun h' eb=>⟨rfl,I.turned (t':=s.toks) (fun b o hb e=>eb b o hb e) f0 f1 f3 f4 f5⟩
  self:=fun A i s Q E st h=>S A i s Q E st h
theorem pi_str {l:PySem.Expr}{tl:TE} (hl:PE X l tl):PI X tg l (fun σ H R=>tl σ H fun x H1=>∃ z,x=.str z /\ R (Its z) H1):=by
  intro pins s σ H R I h
  refine thn (hl pins s σ H _ I h) fun v s1 ⟨x,H1,I1,r1,q1⟩=>?_
  obtain ⟨z,rfl,q⟩:=q1
  obtain ⟨t,rfl⟩:=r1
  have fp:∀ b∈[s1.heap.objs.size],zf9 X pins H1 b:=fun b hb=>by
    have e:b=s1.heap.objs.size:=by simpa using hb
    subst e
    exact I1.fpOk (Nat.le_refl _) (I1.hok.fresh (Nat.le_refl _))
  cases ha:z.cps.all (· < 128)
  · refine wpAny_pyIter_wide ha ?_
    exact ⟨s1.heap.objs.size,[s1.heap.objs.size],_,_,H1,rfl,I1.kept (t':=s1.toks) fun b o e=>Heap.get?_push_of_some _ e,zpq (n:="str_iterator") rfl _ z t (fun A' h=>Walks.strWide h _ z t) (fun A i s Q E st h=>wpAny_pyIter_striter_wide st h) (fun A hh i s Q E st hi k=>wpAny_pyNext_wide_end hh st (by simp;omega) k),⟨_,Heap.get?_push_size _ rfl,rfl,rfl⟩,fp,q⟩
  · refine wpAny_pyIter_ascii ha ?_
    exact ⟨s1.heap.objs.size,[s1.heap.objs.size],_,_,H1,rfl,I1.kept (t':=s1.toks) fun b o e=>Heap.get?_push_of_some _ e,zpq (n:="str_ascii_iterator") rfl _ z t (fun A' h=>Walks.strAscii h _ z t) (fun A i s Q E st h=>wpAny_pyIter_striter_ascii st h) (fun A hh i s Q E st hi k=>wpAny_pyNext_ascii_end hh st (by simp;omega) k),⟨_,Heap.get?_push_size _ rfl,rfl,rfl⟩,fp,q⟩
def zmn (ga:GE):Env->Mem->Res Walk:=fun ρ M=>(ga ρ M).bind fun x M=>match x with
  | .str z=>.ok (fun _=>some (signs z)) M
  | _=>.bad
theorem zxc {μ0:Mu}{H0:Hp} (z:Str):zey fa X.K μ0 H0 (fun _=>some (signs z)) (Its z):=fun μ H M ds x hM e=>by
  cases e
  refine ⟨fun i d hd=>?_,fun i hi=>(show z.cps.size≤i by simpa [signs] using hi)⟩
  have hd:(signs z)[i]?=some d:=hd
  unfold signs at hd
  rw [List.getElem?_map] at hd
  cases e:z.cps.toList[i]? with
  | none=>rw [e] at hd;cases hd
  | some c =>
    rw [e] at hd
    have e':D.str ⟨#[c]⟩=d:=Option.some.inj hd
    subst e'
    have e2:z.cps[i]?=some c:=by simpa using e
    refine ⟨(Array.getElem?_eq_some_iff.mp e2).1,fun y H' ⟨e1,c',e3,e4⟩=>?_⟩
    rw [e2] at e3
    cases e3
    subst e1 e4
    exact ⟨.refl,hM,rfl⟩
theorem z16 (ha:DE fa X a ga):DI fa X tg a (zmn ga):=fun pins s σ H R I ⟨μ,ρ,M,hE,hM,h⟩=>by
  obtain ⟨x,M1,e,q⟩:=zbe h
  refine pi_str ha pins s σ H R I ⟨μ,ρ,M,hE,hM,?_⟩
  rw [e]
  intro v H1 μ1 x1 m1 r1
  cases x with
  | str z =>
    obtain rfl:v=.str z:=r1
    exact ⟨z,rfl,q _ H1 μ1 x1 m1 (zxc z)⟩
  | _=>exact q.elim
end
end LD
namespace LD
open PySem PySem.Spec PySem.Calls PyProof.Rows PySem.W
section
variable {prog:Program}{w:World}{A:Around}{E:Value->Shared->Prop}{s:Shared}{K:Frag}{x C:Addr}{ox:Obj}{od:Option Obj}{name:Str}
def zje (K:Frag) (C:Addr):Bool:=findIn K (.ref C) "__getattribute__"==some (some (.builtin "BaseException.__getattribute__"))&&findIn K (.ref C) "__getattr__"==some none&&mroIn K C (.type "BaseException")==some true&&mroIn K C (.type "object")==some true &&
  findIn K (.ref C) "__class__"==some (some (.builtin "object.__class__"))&&specialIn K (.builtin "object.__class__") "__get__"==some (some (.builtin "getset_descriptor.__get__"))&&takesIn K (.builtin "object.__class__")==some true
def fndK (prog:Program) (w:World) (A:Around) (x C:Addr) (Q:Value->Shared->Prop) (E:Value->Shared->Prop) (s:Shared):Builtin.ObjectAttr.Found->Prop
  | .value v=>wpAny (model prog w) A (handedOut v) Q E s
  | .bind g a=>wpAny (model prog w) A.in1 (call g [a,.ref x,.ref C]) (fun v s'=>wpAny (model prog w) A (handedOut v) Q E s') (fun _ _=>False) s
  | .missing=>False
theorem z10 {r:Builtin.ObjectAttr.Found}{tk:Tok}{fill expr:Bool}{Q:Value->Shared->Prop} (X:K.In s.heap) (I:InstAt s.heap x ox C od) (hg:zje K C=true) (hf:findObj K C od name=some r)
    (h:fndK prog w A x C Q E s r) :
    wpAny (model prog w) A (getAttrBy (.ref x) (.str name tk) fill expr) Q E s:=by
  unfold zje at hg
  simp only [Bool.and_eq_true,beq_iff_eq] at hg
  obtain ⟨⟨⟨⟨⟨⟨hga,hgn⟩,hmB⟩,hmO⟩,_⟩,_⟩,_⟩:=hg
  obtain ⟨hh,g,d,t,os⟩:=s
  have L0:=I.type (M:=model prog w)
  have L1:=looks_findIn (M:=model prog w) X hga
  have L2:=looks_findIn (M:=model prog w) X hgn
  have L3:=looks_find (M:=model prog w) X I hf
  have L4:=looks_mroIn (M:=model prog w) X hmB
  have hx2:(Value.builtin "BaseException.__getattribute__"==Value.builtin "object.__getattribute__")=false:=by decide +kernel
  have hk:builtinKind "BaseException.__getattribute__"=some .slot:=by decide +kernel
  have hsplit:splitId "BaseException.__getattribute__"=some ("BaseException","__getattribute__"):=by decide +kernel
  unfold getAttrBy
  refine wpAny_holding (wpAny_bind (L0.at (wpAny_bind (L1.at ?_))))
  show wpAny _ _ (if (true&&Value.builtin "BaseException.__getattribute__"==Value.builtin "object.__getattribute__")=true then _ else _) _ _ _
  rw [hx2,if_neg (by decide)]
  unfold getAttrByItsOwn
  refine wpAny_bind (show wpAny _ _ (typeLookup (.ref C) "__getattr__") _ _ _ from L2.at (wpAny_bind (wpAny_attempt (wpAny_holding ?_))))
  unfold callGetattribute
  rw [if_neg (by cases expr<;>decide)]
  unfold boundAndCalled
  refine wpAny_bind (wpAny_of_eq (PySem.F.excAttr_ValueError.ga.bind (.ref x)) ?_)
  refine wpAny_call (codeAny_call_builtin PySem.F.excAttr_ValueError.ga.plain F.entry_bexc_ga ?_)
  simp only [checkBuiltinCall,hk,hsplit]
  refine wpAny_bind (show wpAny _ _ (isInstance (.ref x) (.type "BaseException")) _ _ _ from wpAny_bind (L0.at (L4.at ?_)))
  have ha:=F.args_bexc_ga (.ref x) (.str name tk)
  repeat (any_goals (first | assumption | wp_step))
  refine wpAny_loadPart_at I.at_ (wpAny_pure ?_)
  rw [I.cls]
  refine wpAny_bind (L3.at ?_)
  cases r with
  | value v=>exact wpAny_pure h
  | bind g a =>
    show wpAny _ _ (holding [a] (call g [a,.ref x,.ref C]) >>= ret) _ _ _
    exact wpAny_bind (wpAny_holding (wpAny_mono h (fun v s' z=>wpAny_pure z) fun _ _ z=>z.elim))
  | missing=>exact h.elim
theorem zwf {Q:Option Value->Shared->Prop} (X:K.In s.heap) (I:InstAt s.heap x ox C od) (hg:zje K C=true) (h:Q (some (.ref C)) {s with toks:=s.toks+1}):wpAny (model prog w) A (getAttr? (.ref x) "__class__") Q E s:=by
  have hg':=hg
  unfold zje at hg'
  simp only [Bool.and_eq_true,beq_iff_eq] at hg'
  obtain ⟨⟨⟨⟨⟨⟨_,_⟩,_⟩,hm⟩,ha⟩,hn⟩,htk⟩:=hg'
  have hf:findObj K C od "__class__"=some (.bind (.builtin "getset_descriptor.__get__") (.builtin "object.__class__")):=by
    obtain ⟨cd,hc,_⟩:=Option.bind_eq_some_iff.mp hm
    unfold findObj
    rw [hc,Option.bind_some,ha,Option.bind_some]
    simp [hn,htk]
  unfold getAttr? getAttrBy?
  refine wpAny_bind (wpAny_mkText (wpAny_bind (wpAny_attempt (z10 (s:={s with toks:=s.toks+1}) (r:=.bind (.builtin "getset_descriptor.__get__") (.builtin "object.__class__")) X I hg hf ?_))))
  exact wpAny_call (class_get (s:={s with toks:=s.toks+1}) (ox:=ox) (od:=od) X I hm (handed_on rfl (wpAny_pure h)))
theorem z1y {c:Value}{Q:Value->Shared->Prop} (X:K.In s.heap) (I:InstAt s.heap x ox C od) (hg:zje K C=true) (hty:∀ (M:Model) h',K.In h'->Looks M h' (typeOf c) (.type "type")) (his:∀ (M:Model) h',K.In h'->Looks M h' (isType c) true)
    (hne:(Value.ref C==c)=false) (hsub:∀ (M:Model) h',K.In h'->Looks M h' (isSubtype (.ref C) c) false) (h:Q (.bool false) {s with toks:=s.toks+1}):wpAny (model prog w) A (call (.builtin "isinstance") [.ref x,c]) Q E s:=by
  refine call_isinstance_of ?_ (by intro q;cases q)
  have hisD:Looks (model prog w) s.heap (isType (.ref C)) true:=by
    have hg':=hg
    unfold zje at hg'
    simp only [Bool.and_eq_true,beq_iff_eq] at hg'
    obtain ⟨cd,hc,_⟩:=Option.bind_eq_some_iff.mp hg'.1.1.1.2
    unfold clsIn at hc
    split at hc
    · rename_i c' d' cd' sl' ho
      intro A' Q' E' s' k q
      unfold isType loadHead
      exact wpAny_bind (wpAny_loadPart (k _ _ (X _ _ ho)) (wpAny_pure q))
    · cases hc
  have hty:=hty (model prog w) s.heap X
  have his:=his (model prog w) s.heap X
  have hsub:=hsub (model prog w) s.heap X
  obtain ⟨h0,g,d,tt,os⟩:=s
  have L0:=I.type (M:=model prog w)
  have LI:Looks (model prog w) h0 (isInstance (.ref x) c) false:=L0.andThen hsub
  unfold Builtin.«isinstance.nested»
  refine wpAny_bind (L0.at ?_)
  rw [if_neg (fun q=>by rw [hne] at q;exact Bool.noConfusion q)]
  refine wpAny_bind (hty.at ?_)
  rw [if_pos (by decide)]
  k_delta "plainIsInstance"
  refine wpAny_bind (wpAny_bind (his.at ?_))
  simp only [Bool.not_true,Bool.false_eq_true,if_false]
  refine wpAny_bind (LI.at ?_)
  simp only [Bool.false_eq_true,if_false]
  refine wpAny_bind (zwf X I hg ?_)
  refine wpAny_bind (hisD.at ?_)
  simp only [Bool.not_true,Bool.false_eq_true,if_false]
  refine wpAny_bind (wpAny_rule ?_)
  refine hsub.at ?_
  exact wpAny_pure h
theorem zys {D:Addr}{Q:Value->Shared->Prop} (X:K.In s.heap) (I:InstAt s.heap x ox C od) (hg:zje K C=true) (e:kin_not K C D=true) (h:Q (.bool false) {s with toks:=s.toks+1}):wpAny (model prog w) A (call (.builtin "isinstance") [.ref x,.ref D]) Q E s:=by
  unfold kin_not at e
  rw [Bool.and_eq_true,Bool.and_eq_true,Bool.and_eq_true] at e
  obtain ⟨⟨⟨e0,e1⟩,e2⟩,e3⟩:=e
  refine z1y X I hg (fun _ h' X'=>looks_typeIn X' (beq_iff_eq.mp e2)) (fun _ h' X'=>?_) ?_ (fun _ h' X'=>looks_subIn X' (beq_iff_eq.mp e3)) h
  · unfold clsIn at e1
    split at e1
    · rename_i c' d' cd' sl' ho
      intro A' Q' E' s' k q
      unfold isType loadHead
      exact wpAny_bind (wpAny_loadPart (k _ _ (X' _ _ ho)) (wpAny_pure q))
    · cases e1
  · exact Bool.eq_false_iff.mpr fun q=>of_decide_eq_true e0 (Value.ref.inj (beq_iff_eq.mp q))
theorem z1z {T:String}{Q:Value->Shared->Prop} (X:K.In s.heap) (I:InstAt s.heap x ox C od) (hty:typeOf (.type T)=pure (.type "type")) (hm:mroIn K C (.type T)=some true) (h:Q (.bool true) s):wpAny (model prog w) A (call (.builtin "isinstance") [.ref x,.type T]) Q E s:=by
  refine call_isinstance_of ?_ (by intro q;cases q)
  have L1:=looks_mroIn (M:=model prog w) X hm
  obtain ⟨h0,g,d,tt,os⟩:=s
  have L0:=I.type (M:=model prog w)
  have LI:Looks (model prog w) h0 (isInstance (.ref x) (.type T)) true:=L0.andThen L1
  unfold Builtin.«isinstance.nested»
  refine wpAny_bind (L0.at ?_)
  rw [if_neg (by intro q;cases beq_iff_eq.mp q)]
  refine wpAny_bind (wpAny_of_eq hty ?_)
  rw [if_pos (by decide)]
  k_delta "plainIsInstance"
  refine wpAny_bind (wpAny_bind (wpAny_of_eq (a:=true) rfl ?_))
  simp only [Bool.not_true,Bool.false_eq_true,if_false]
  refine wpAny_bind (LI.at ?_)
  simp only [if_true]
  exact wpAny_pure (wpAny_pure h)
end
end LD
namespace LD
open PySem PySem.Spec PyProof.Rows L2
def zig (f:Nat) (c:Call) (s:GA):GE:=fun ρ M=>match s ρ M with
  | .ok ds M=>c f ds M
  | _=>.bad
def xFin (k:D->Mem->Res Fl) (ρ:Env):Res D->Res Fl
  | .ok d M=>k d M
  | .err x M=>.ok (.exc x ρ) M
  | .bad=>.bad
def sExX (a:GE):GS:=fun ρ M=>xFin (fun _ M=>.ok (.next ρ) M) ρ (a ρ M)
def zko (t:Tgt) (a:GE):GS:=fun ρ M=>xFin (fun x M=>(ofO M (zde t x ρ)).bind fun ρ1 M=>.ok (.next ρ1) M) ρ (a ρ M)
def sRetX (a:GE):GS:=fun ρ M=>xFin (fun x M=>.ok (.ret x) M) ρ (a ρ M)
def zi6 (c:Nat) (s:GA):GS:=fun ρ M=>match s ρ M with
  | .ok ds M=>if ds.length≤sz then .ok (.exc (.exc c none) ρ) M else .bad
  | _=>.bad
def zcp (o:Option Nat) (a:GE):GE:=fun ρ M=>(a ρ M).bind fun x M=>match x with
  | .exc c _=>.ok (.bl (match o with | some k=>k==c | none=>true)) M
  | _=>.bad
def xEnd (i:Nat):Fl->Mem->Res Fl
  | .next ρ,M=>.ok (.next (ρ.set i none)) M
  | .ret d,M=>.ok (.ret d) M
  | .exc _ _,_=>.bad
def xTry (i:Nat) (h:GS):Fl->Mem->Res Fl
  | .exc x ρ,M=>(h (ρ.set i (some x)) M).bind (xEnd i)
  | fl,M=>.ok fl M
def sTry (b:GS) (i:Nat) (h:GS):GS:=fun ρ M=>(b ρ M).bind (xTry i h)
def gBad:GE:=fun _ _=>.bad
theorem r_bad {fa:Fa}{X:Cx}{e:PySem.Expr}:DE fa X e gBad:=fun pins s σ H Q I ⟨μ,ρ,M,hE,hM,h⟩=>h.elim
def tEx (fa:Fa) (X:Cx) (g:GE):TE:=fun σ H Q=>∃ μ ρ M,zbv fa X.K μ H σ ρ /\ RelM fa X.K μ H M /\ okX (g ρ M) (zbt fa X.K μ H Q) (fun x M'=>XW fa X μ H x ρ M')
abbrev DX (fa:Fa) (X:Cx) (e:PySem.Expr) (g:GE):Prop:=PE X e (tEx fa X g)
section
variable {fa:Fa}{X:Cx}{a b:PySem.Expr}{ga gb:GE}{ta:GT}{pos p:Pos}{es:List PySem.Expr}{gs:GA}{n:Nat}
theorem x_call (f:Nat) {x:Str}{call:Call} (C:∀ f,ze7 fa X.prog X.w X.K X.mg X.base n f (call f)) (hr:zbj n X.A) (hex:X.ex=[]) (hg:Gl X x) (hm:∀ ad,fa f=some ad->X.mg x=some (.ref ad)) (hs:DA fa X (a::es) gs)
    (hdb:(x==("__debug__":Str))=false) (he:notStar a=true) (hpl:es.all notStar=true):DX fa X (.Call (.Name x p) (a::es) [] pos) (zig f call gs):=by
  intro pins s σ H Q I ⟨μ,ρ,M,hE,hM,h⟩
  unfold zig at h
  cases eg:gs ρ M with
  | err=>rw [eg] at h;exact h.elim
  | bad=>rw [eg] at h;exact h.elim
  | ok ds M1 =>
    rw [eg] at h
    have h:okX (call f ds M1) (zbt fa X.K μ H Q) (fun x M'=>XW fa X μ H x ρ M'):=h
    rcases C f with hb | ⟨ad,fd,ps,h1,h2,h3,h4,F⟩
    · rw [hb] at h;exact h.elim
    · have hl:ds.length=ps.length:=by
        by_cases hl:ds.length=ps.length
        · exact hl
        · rw [h4 ds M1 hl] at h;exact h.elim
      refine wpAny_Call_Name_kw (zja I hg (hm ad h1) ?_ hdb)
      refine PySem.W.callWith_K (h₀:=X.base) I.ok.mod.kin h2 (thn (hs pos pins s σ H (fun vs H1=>∃ μ1,Ext μ H μ1 H1 /\ RelM fa X.K μ1 H1 M1 /\ za3 fa X.K μ1 H1 ds vs) I ⟨μ,ρ,M,hE,hM,by rw [eg];exact fun vs H1 μ1 x1 m1 r1=>⟨μ1,x1,m1,r1⟩⟩) fun us s1 ⟨vs,H1,I1,r,μ1,x1,m1,r1⟩=>⟨I1.kIn,?_⟩) (zei he) (ze9 hpl)
      have hsp:spD fa X.K ps.length (call f) vs H1 Q fun Cv dx H'=>∃ y M' μ' C' c p,Cv=.ref C' /\ Ext μ1 H1 μ' H' /\ RelM fa X.K μ' H' M' /\ y=.exc c p /\ fa (cid c)=some C' /\ XNum H' c dx p /\ XW fa X μ H y ρ M':=by
        refine ⟨by rw [r1.length];exact hl,μ1,M1,ds,m1,r1,?_⟩
        cases ec:call f ds M1 with
        | ok d M2=>rw [ec] at h;exact zbt.ext h x1
        | err y M2=>rw [ec] at h;exact fun C dx c p H' μ' y' m ex hc hn=>⟨_,M2,μ',C,c,p,rfl,y',m,ex,hc,hn,h⟩
        | bad=>rw [ec] at h;exact h.elim
      have hl2:us.length=ps.length:=by rw [<- r.length,r1.length];exact hl
      have hb:=h3 s1 us I1.kIn (by simpa using hl2)
      rw [List.append_nil] at hb
      refine wpAny_call (codeAny_mono (F.run X.A X.stack s1 H1 ⟨us,[]⟩ us vs Q _ hr I1.env0 hb r hsp) fun r' s' hq=>?_)
      cases r' with
      | error e =>
        unfold CR at hq
        dsimp only at hq
        obtain ⟨a',C',dx,H',rfl,I',fl,y,M',μ',C2,c,p,ec,ye,m',ey,hc,hn,hw⟩:=zwb I1 hex hq
        cases ec
        exact hw pins σ H' μ' s' a' C' dx c p I' (x1.trans ye) ((hE.ext x1).ext ye) m' ey hc hn fl
      | ok fl =>
        cases fl with
        | ret u=>exact I1.after hq
        | next=>exact False.elim hq
        | brk=>exact False.elim hq
        | cont=>exact False.elim hq
theorem s_exX (ha:DX fa X a ga) (hs:swapsWith a none pos.line X.env=pure false):DS fa X (.Expr a pos) (sExX ga):=
  zgr (zsh ha hs) fun D' σ H ⟨μ,ρ,M,hE,hM,h⟩=>⟨μ,ρ,M,hE,hM,by
    unfold sExX at h
    cases e:ga ρ M with
    | ok d M1=>rw [e] at h;exact fun v H1 μ1 x1 m1 r1=>h σ H1 μ1 x1 (hE.ext x1) m1
    | err x M1=>rw [e] at h;exact h
    | bad=>rw [e] at h;exact h.elim⟩
theorem s_asgX {tg:PySem.Expr}{t:Tgt} (ha:DX fa X a ga) (hg:PG X tg (gT fa X.K t)) (hs:swapsWithSole [tg] a pos.line X.env=pure false) (hw:swappedStores [tg] a X.env=pure none) (h1:(assignEach [tg] X.env).map (·.2)=[assign tg X.env]) :
    DS fa X (.Assign [tg] a pos) (zko t ga):=
  zgr (zqe ha hg hs hw h1) fun D σ H ⟨μ,ρ,M,hE,hM,h⟩=>⟨μ,ρ,M,hE,hM,by
    unfold zko at h
    cases e:ga ρ M with
    | ok d M1 =>
      rw [e] at h
      obtain ⟨ρ1,M2,e',q⟩:=zbe h
      cases eb:zde t d ρ with
      | none=>rw [eb] at e';cases e'
      | some ρ2 =>
        rw [eb] at e'
        cases e'
        exact fun v H1 μ1 x1 m1 r1=>⟨μ1,ρ,_,d,ρ1,hE.ext x1,m1,r1,eb,fun σ1 hE2=>q σ1 H1 μ1 x1 hE2 m1⟩
    | err x M1=>rw [e] at h;exact h
    | bad=>rw [e] at h;exact h.elim⟩
end
abbrev bmV:List Value:=[.type "ValueError",.type "Exception",.type "BaseException",.type "object"]
theorem zyt {K:PySem.W.Frag}{h:Heap}{C:Addr}{bmB:List Value}{newId:String} (X:K.In h) (q:PySem.W.excIn K C bmB newId=true) :
    ∃ bm N nm q bs hdct sn sub ab col dd k0 k1 k2 k3 k5 mN,h.get? C=some (excClassObj nm q C N bs bm hdct sn sub ab col dd k0 k1 k2 k3 k5 newId) /\ h.Ns N mN /\ mN "__init__"=none /\ OwnTail h bmB bm:=by
  unfold PySem.W.excIn at q
  split at q
  · rename_i dd cd sl ho
    split at q
    · rename_i C' bm k0 k1 k2 k3 n k5 hm hs
      simp only [Bool.and_eq_true,beq_iff_eq,Bool.not_eq_true'] at q
      obtain ⟨⟨⟨⟨⟨rfl,rfl⟩,hdel⟩,ht⟩,hok⟩,hni⟩:=q
      obtain ⟨nm,bs,mro,ns,qn,hd,sn,sub,ab,col,del⟩:=cd
      dsimp only at hm hdel hok hni
      subst hm hdel
      have hsl:sl=#[k0,k1,k2,k3,some (.builtin n),k5]:=by
        obtain ⟨l⟩:=sl
        simp only at hs
        rw [hs]
      subst hsl
      exact ⟨bm,ns,nm,qn,bs,hd,sn,sub,ab,col,dd,k0,k1,k2,k3,k5,_,X _ _ ho,.of_isNs (PySem.W.isNs_of_in X hok),PySem.W.nsMap_none_of_in X hok hni,PySem.W.tail_of_in X ht⟩
    · cases q
  · cases q
theorem zoa {P:Program}{w:World}{H:Hp}{h:Heap}{a:Addr}{o:HO} (x:zdm P w H h a o):∃ ob,h.get? a=some ob:=by
  cases o with
  | lst xs=>obtain ⟨_,_,_,_,e⟩:=x;exact ⟨_,e⟩
  | tup xs=>obtain ⟨_,_,_,ob,e,_⟩:=x;exact ⟨_,e⟩
  | dK kvs=>obtain ⟨_,_,_,_,o,_,_,e,_⟩:=x;exact ⟨_,e⟩
  | dT kvs=>obtain ⟨_,_,_,_,o,_,_,e,_⟩:=x;exact ⟨_,e⟩
  | set S n=>obtain ⟨o,_,_,_,e,_⟩:=x;exact ⟨_,e⟩
  | ins C dx fs=>obtain ⟨_,_,_,e,_⟩:=x;exact ⟨_,e⟩
  | own y=>exact x
  | xd fs=>obtain ⟨_,⟨_,_,_,e,_⟩,_⟩:=x;exact ⟨_,e⟩
  | rng lo hi=>obtain ⟨_,_,_,e⟩:=x;exact ⟨_,e⟩
  | frz ob u=>obtain ⟨e,_⟩:=x;exact ⟨_,e⟩
  | tbl ps=>exact ⟨_,x⟩
  | met f y=>exact ⟨_,x⟩
  | ext φ=>obtain ⟨_,e,_⟩:=x;exact e
theorem zq0 {X:Cx}{pins:List (Addr×Obj)}{σ:L2.St}{H:Hp}{s:Shared} (I:Inv X pins σ H s) (hex:X.ex=[]) {e:Addr} (hn:s.heap.get? e=none):NewX X e /\ H e=none:=by
  refine ⟨⟨?_,fun p hp z=>?_⟩,?_⟩
  · cases q:X.s₀.heap.get? e with
    | none=>rfl
    | some o =>
      obtain ⟨o',e'⟩:=I.base.there e o q (by rw [hex];simp)
      rw [hn] at e';cases e'
  · have:=(I.pin p (List.mem_append_left _ hp)).1
    rw [z,hn] at this;cases this
  · cases q:H e with
    | none=>rfl
    | some u =>
      obtain ⟨ob,z⟩:=zoa (I.hok e u q)
      rw [hn] at z;cases z
section
variable {fa:Fa}{X:Cx}{a b:PySem.Expr}{ga gb:GE}{ta:GT}{pos p:Pos}{es:List PySem.Expr}{gs:GA}{n:Nat}
theorem z0k (c:Nat) {x:Str}{np cpos:Pos} (hx:∃ C,X.mg x=some (.ref C) /\ fa (cid c)=some C /\ PySem.W.excIn X.K C bmV "ValueError.__new__"=true) (hex:X.ex=[]) (hg:Gl X x) (hc:X.calm=true) (hs:DA fa X (a::es) gs)
    (hdb:(x==("__debug__":Str))=false) (he:notStar a=true) (hpl:es.all notStar=true):DS fa X (.Raise (some (.Call (.Name x np) (a::es) [] cpos)) none pos) (zi6 c gs):=by
  intro pins s σ H D' I ⟨μ,ρ,M,hE,hM,h⟩
  obtain ⟨C,hmC,hfC,hin⟩:=hx
  obtain ⟨bm,N,nm,q,bs,hdct,sn,sub,ab,col,dd,k0,k1,k2,k3,k5,mN,hC,hN,hni,T⟩:=zyt I.ok.mod.kin hin
  unfold zi6 at h
  cases eg:gs ρ M with
  | err=>rw [eg] at h;exact h.elim
  | bad=>rw [eg] at h;exact h.elim
  | ok ds M1 =>
    rw [eg] at h
    dsimp only at h
    split at h
    · next hz=>
      have h:XW fa X μ H (.exc c none) ρ M1:=h
      refine wpAny_Raise_call_subT (nm:=nm) (q:=q) (N:=N) (bs:=bs) (hdct:=hdct) (sn:=sn) (sub:=sub) (ab:=ab) (col:=col) (dd:=dd) (k0:=k0) (k1:=k1) (k2:=k2) (k3:=k3) (k5:=k5) PySem.F.excBase_ValueError (T.hasType (by decide +kernel)) (I.ok.hd hc) (ze9 (es:=a::es) (by simp [he,hpl])) hni (zja I hg hmC ⟨rfl,?_⟩ hdb)
      have ar:=thn (hs cpos pins s σ H (fun vs H1=>∃ μ1,Ext μ H μ1 H1 /\ RelM fa X.K μ1 H1 M1 /\ za3 fa X.K μ1 H1 ds vs) I ⟨μ,ρ,M,hE,hM,by rw [eg];exact fun vs H1 μ1 x1 m1 r1=>⟨μ1,x1,m1,r1⟩⟩) (Q':=fun us s2=>([]:List (Str×Value))=[] /\ us.length≤sizeLine /\ s2.heap.get? C=some (excClassObj nm q C N bs bm hdct sn sub ab col dd k0 k1 k2 k3 k5 "ValueError.__new__") /\ s2.heap.Ns N mN /\ OwnTail s2.heap bmV bm /\ ∀ h' e,Heap.MadeExcOf s2.heap h' e (.ref C) us->X.xe (.ref e) {s2 with heap:=h'}) fun us s1 ⟨vs,H1,I1,r,μ1,x1,m1,r1⟩=>by
        refine ⟨rfl,?_,I1.bk _ _ hC,hN.keeps I1.bk,T.keeps I1.bk,fun h' e hm=>?_⟩
        · rw [<- r.length,r1.length,<- ze3];exact hz
        · obtain ⟨t,ht,_,_⟩:=hm.there
          obtain ⟨n1,n2⟩:=zq0 I1 hex hm.new
          exact h pins σ H1 μ1 {s1 with heap:=h'} e C none c none (I1.kept (t':=s1.toks) hm.keeps) x1 (hE.ext x1) m1 rfl hfC rfl ⟨n1,n2,_,_,ht,rfl,rfl,rfl,.inl rfl⟩
      rw [zei he] at ar ⊢
      exact PySem.Calls.evalArgs_plain ar
    · exact h.elim
end
end LD
namespace LD
open PySem PySem.Spec PyProof.Rows L2
structure XCs (fa:Fa) (K:PySem.W.Frag):Prop where
  g:∀ c C,fa (cid c)=some C->zje K C=true /\ PySem.W.mroIn K C (.type "ValueError")=some true /\ PySem.W.isIn K (.ref C) C=true
  d:∀ c C D,fa (cid c)=some C->fa 999=some D->PySem.W.isIn K (.ref C) D=true /\ PySem.W.mroIn K C (.ref D)=some true /\ PySem.W.mroIn K D (.type "BaseException")=some true /\ PySem.W.typeIn K (.ref D)=some (.type "type")
  n:∀ c C c' C',fa (cid c)=some C->fa (cid c')=some C'->c'≠c->PySem.W.kin_not K C C'=true
section
variable {fa:Fa}{X:Cx}{pins:List (Addr×Obj)}{σ:L2.St}{H:Hp}{s:Shared}{μ:Mu}
theorem zno (I:Inv X pins σ H s) {c:Nat}{p:Option Int}{v:V} (r:Rep fa X.K μ H (.exc c p) v):∃ a C ox od,v=.ref a /\ fa (cid c)=some C /\ PySem.W.InstAt s.heap a ox C od:=by
  obtain ⟨a,C,dx,rfl,hf,hH,hn⟩:=r
  obtain ⟨⟨o,vs,h1,h2,h3,h4,h5⟩,_,_⟩:=I.hok a _ hH
  have hc:PySem.W.notCls o=true:=by unfold PySem.W.notCls;rw [h4]
  cases p with
  | none =>
    have hn:dx=none:=hn
    exact ⟨a,C,o,none,rfl,hf,h1,h2,hc,by rw [h3,hn];trivial⟩
  | some i =>
    obtain ⟨d,rfl,hd⟩:=hn
    obtain ⟨mA,⟨od,es,ep,e,_⟩,_⟩:=I.hok d _ hd
    exact ⟨a,C,o,some od,rfl,hf,h1,h2,hc,by rw [h3];exact e⟩
def zl2 (fa:Fa) (K:PySem.W.Frag) (o:Option Nat) (w:V) (xs:List V) (H:Hp) (Q:VK):Prop:=∃ μ c p v,xs=[v,w] /\ Rep fa K μ H (.exc c p) v /\ Q (.bl (match o with | some k=>k==c | none=>true)) H
theorem z1v (hc:XCs fa X.K) {k:Nat}{D:Addr} (hD:fa (cid k)=some D):zdn X (.builtin "isinstance") (zl2 fa X.K (some k) (.ref D)):=by
  intro pins s σ H xs us Q I r h
  obtain ⟨μ,c,p,v,rfl,hv,q⟩:=h
  obtain ⟨u,w,rfl,r1,r2⟩:=vals2 r
  obtain rfl:w=Value.ref D:=r2
  obtain ⟨a,C,ox,od,rfl,hf,IA⟩:=zno I hv
  obtain rfl:u=Value.ref a:=r1
  dsimp only at q
  by_cases hb:k=c
  · subst hb
    rw [hD] at hf;cases hf
    rw [beq_self_eq_true] at q
    exact PySem.W.isi_call I.kIn (fun M=>IA.type) (hc.g k D hD).2.2 (by intro z;cases z) ⟨.bl true,H,I,rfl,q⟩
  · rw [beq_eq_false_iff_ne.mpr hb] at q
    exact zys I.kIn IA (hc.g c C hf).1 (hc.n c C k D hf hD hb) ⟨.bl false,H,I.tok _,rfl,q⟩
theorem z1x (hc:XCs fa X.K) {D:Addr} (hD:fa 999=some D):zdn X (.builtin "isinstance") (zl2 fa X.K none (.ref D)):=by
  intro pins s σ H xs us Q I r h
  obtain ⟨μ,c,p,v,rfl,hv,q⟩:=h
  obtain ⟨u,w,rfl,r1,r2⟩:=vals2 r
  obtain rfl:w=Value.ref D:=r2
  obtain ⟨a,C,ox,od,rfl,hf,IA⟩:=zno I hv
  obtain rfl:u=Value.ref a:=r1
  exact PySem.W.isi_call I.kIn (fun M=>IA.type) (hc.d c C D hf hD).1 (by intro z;cases z) ⟨.bl true,H,I,rfl,q⟩
theorem z1w (hc:XCs fa X.K):zdn X (.builtin "isinstance") (zl2 fa X.K none (.ty "ValueError")):=by
  intro pins s σ H xs us Q I r h
  obtain ⟨μ,c,p,v,rfl,hv,q⟩:=h
  obtain ⟨u,w,rfl,r1,r2⟩:=vals2 r
  obtain rfl:w=Value.type "ValueError":=r2
  obtain ⟨a,C,ox,od,rfl,hf,IA⟩:=zno I hv
  obtain rfl:u=Value.ref a:=r1
  exact z1z I.kIn IA (by kernel_rfl) (hc.g c C hf).2.1 ⟨.bl true,H,I,rfl,q⟩
end
section
variable {fa:Fa}{X:Cx}{a:PySem.Expr}{ga:GE}{pos p1 p2:Pos}{x:Str}
theorem znp {o:Option Nat}{w:V}{σ:L2.St}{H:Hp}{Q:VK} (h:tE fa X.K (zcp o ga) σ H Q):tE fa X.K ga σ H fun v H1=>zl2 fa X.K o w [v,w] H1 Q:=by
  obtain ⟨μ,ρ,M,hE,hM,h⟩:=h
  exact t1 hE hM h fun x M1 v H1 μ1 x1 hE1 hM1 r1 h1=>by
    cases x with
    | exc c p=>exact ⟨μ1,c,p,v,rfl,r1,zbm (v:=.bl _) hM1 (zbt.ext h1 x1) rfl⟩
    | _=>exact h1.elim
theorem z0r (k:Nat) (hc:XCs fa X.K) (hx:∃ D,X.mg x=some (.ref D) /\ fa (cid k)=some D) (ha:DE fa X a ga) (hg:Gl X "isinstance") (hm:X.mg "isinstance"=none) (hgt:Gl X x) (hdb:(x==("__debug__":Str))=false)
    (he:starEach [a,.Name x p1] X.env=(false,eval a X.env)::starEach [.Name x p1] X.env):DE fa X (.Call (.Name "isinstance" p2) [a,.Name x p1] [] pos) (zcp (some k) ga):=by
  obtain ⟨D,h1,h2⟩:=hx
  exact zco (zic (z1v (fa:=fa) hc h2) hg hm (by decide +kernel) (zdb ha (zdb (zi7 hgt h1 (v:=.ref D) rfl hdb) zfm (by rfl)) he) (by decide) (by decide) he (by rfl)) fun σ H Q h=>znp h
theorem z0t (hc:XCs fa X.K) (hx:∃ D,X.mg x=some (.ref D) /\ fa 999=some D) (ha:DE fa X a ga) (hg:Gl X "isinstance") (hm:X.mg "isinstance"=none) (hgt:Gl X x) (hdb:(x==("__debug__":Str))=false)
    (he:starEach [a,.Name x p1] X.env=(false,eval a X.env)::starEach [.Name x p1] X.env):DE fa X (.Call (.Name "isinstance" p2) [a,.Name x p1] [] pos) (zcp none ga):=by
  obtain ⟨D,h1,h2⟩:=hx
  exact zco (zic (z1x (fa:=fa) hc h2) hg hm (by decide +kernel) (zdb ha (zdb (zi7 hgt h1 (v:=.ref D) rfl hdb) zfm (by rfl)) he) (by decide) (by decide) he (by rfl)) fun σ H Q h=>znp h
theorem z0s (hc:XCs fa X.K) (ha:DE fa X a ga) (hg:Gl X "isinstance") (hm:X.mg "isinstance"=none) (hgt:Gl X "ValueError") (hmt:X.mg "ValueError"=none)
    (he:starEach [a,.Name "ValueError" p1] X.env=(false,eval a X.env)::starEach [.Name "ValueError" p1] X.env):DE fa X (.Call (.Name "isinstance" p2) [a,.Name "ValueError" p1] [] pos) (zcp none ga):=
  zco (zic (z1w (fa:=fa) hc) hg hm (by decide +kernel) (zdb ha (zdb (zsk hgt hmt (by decide +kernel) (v:=.ty "ValueError") rfl) zfm (by rfl)) he) (by decide) (by decide) he (by rfl)) fun σ H Q h=>znp h
end
theorem zr2 {prog:Program}{w:World}{A:Around}{E:Value->Shared->Prop}{s:Shared}{K:PySem.W.Frag}{x C D:Addr}{ox:Obj}{od:Option Obj}{Q:Bool->Shared->Prop} (X:K.In s.heap) (I:PySem.W.InstAt s.heap x ox C od)
    (hD:PySem.W.mroIn K D (.type "BaseException")=some true) (hT:PySem.W.typeIn K (.ref D)=some (.type "type")) (hs:PySem.W.mroIn K C (.ref D)=some true) (h:Q true s):wpAny (model prog w) A (excMatches (.ref x) (.ref D)) Q E s:=by
  obtain ⟨hh,g,d,t,os⟩:=s
  have LS:=PySem.W.looks_mroIn (M:=model prog w) X hs
  have LB:=PySem.W.looks_mroIn (M:=model prog w) X hD
  have LT:=PySem.W.looks_typeIn (M:=model prog w) X hT
  have f:=tc_notTuple
  obtain ⟨cd,hc,_⟩:=Option.bind_eq_some_iff.mp hD
  unfold PySem.W.clsIn at hc
  split at hc
  · rename_i c' d' cd' sl' ho
    have hDo:=X _ _ ho
    have LI:PySem.W.Looks (model prog w) hh (isType (.ref D)) true:=fun A' Q' E' s' k q=>by
      unfold isType loadHead
      exact wpAny_bind (wpAny_loadPart (k _ _ hDo) (wpAny_pure q))
    unfold excMatches
    refine wpAny_bind (show wpAny _ _ (isInstance (.ref D) (.type "tuple")) _ _ _ from wpAny_bind (LT.at (wpAny_of_eq f ?_)))
    simp only [Bool.false_eq_true,if_false]
    repeat (first | with_reducible refine wpAny_bind (LI.at ?_) | with_reducible refine LB.at ?_ | with_reducible refine LS.at ?_ | with_reducible refine wpAny_loadPart_at I.at_ ?_ | wp_step)
    rw [I.cls]
    refine LS.at ?_
    repeat (first | exact h | wp_step)
  · cases hc
theorem zt2 {M:Model}{A:Around}{E:Value->Shared->Prop}{New:Addr->Prop}{C a:Addr}{dx:Option Addr}{H:Hp}{s:Shared}{Q:Unit->Shared->Prop} (f:Fly New C dx a s.heap H) (h:Q () s):wpAny M A (setFlight (.ref a) none) Q E s:=by
  obtain ⟨_,_,o,vs,h1,_,_,h4,tr⟩:=f
  unfold setFlight
  rcases tr with t | ⟨T,oT,ts,t1,_,_,_,t5,t6,t7⟩
  · refine wpAny_bind (wpAny_field h1 h4 t ?_)
    rw [if_neg (by decide)]
    exact wpAny_pure h
  · refine wpAny_bind (wpAny_field h1 h4 t1 ?_)
    rw [if_pos (show (Value.ref T != Value.none)=true from by simp)]
    refine wpAny_setField t5 t6 (Array.getElem?_eq_some_iff.mp t7).1 ?_
    have e:=Heap.update_setField_same s.heap T oT ts 3 .none t5 t6 t7
    show Q () {s with heap:=s.heap.update T (Obj.mapFields (·.setIfInBounds 3 .none))}
    rw [e];exact h
section
variable {X:Cx}{pins:List (Addr×Obj)}{σ:L2.St}{H:Hp}{s:Shared}
theorem zso {M:Model}{A:Around}{E:Value->Shared->Prop}{i:Nat}{x:Str}{ps:Pos}{Q:Unit->Shared->Prop} (I:Inv X pins σ H s) (hN:X.N.Nodup) (hi:X.N[i]?=some x) (hk:X.env.scope.names.lookup x=some .local)
    (h:∀ s',Inv X pins (σ.set i none) H s'->Q () s'):wpAny M A (do bindName X.env x .none;unbindBehindTheSuite X.env x ps) Q E s:=by
  obtain ⟨m,hn,hl⟩:=id I.loc
  have hcls:(X.env.scope.kind==.class||(X.env.scope.kind==.module&&X.env.locals != X.env.globals))=false:=by rw [I.ok.kind];rfl
  refine wpAny_nameGoes_keeps hk hn hcls fun h' v hn' hs=>h _ ?_
  obtain ⟨oL,_,_,hoL,_⟩:=id hn
  have n0:∀ b o,X.s₀.heap.get? b=some o->b≠X.env.locals:=fun b o e=>Nat.ne_of_lt (Nat.lt_of_lt_of_le (Heap.lt_size e) I.ok.above)
  refine ⟨I.ok,I.os,I.bare,⟨fun b o e n hb hx=>?_,fun b o e n hb hx=>?_,I.base.free,fun b o e hx=>?_,I.base.tups,I.base.frzs,I.base.tbls⟩,⟨_,hn',fun j y v' e1 e2 e3=>?_⟩,fun y c e=>?_,I.free,I.freeC,fun p hp=>?_,fun b ob e=>?_,by simpa using I.len⟩
  · exact (hs.2 b (n0 b o e)).trans (I.base.keep b o e n hb hx)
  · obtain ⟨sl,e1⟩:=I.base.slot b o e n hb hx
    exact ⟨sl,(hs.2 b (n0 b o e)).trans e1⟩
  · obtain ⟨o',e1⟩:=I.base.there b o e hx
    exact ⟨o',(hs.2 b (n0 b o e)).trans e1⟩
  · by_cases hj:j=i
    · subst hj
      by_cases hlt:j < σ.length
      · rw [List.getElem?_set_self hlt] at e2;cases e2
      · rw [List.getElem?_eq_none (by simpa using hlt)] at e2;cases e2
    · rw [List.getElem?_set_ne (Ne.symm hj)] at e2
      obtain ⟨u',r',q⟩:=hl j y v' e1 e2 e3
      refine ⟨u',r',?_⟩
      rcases q with ⟨k,e⟩ | ⟨k,c,e,z⟩
      · refine .inl ⟨k,?_⟩
        have:y≠x:=fun e=>hj (zlf hN e1 (e ▸ hi))
        simp [this,e]
      · exact .inr ⟨k,c,e,z.sameBut hs (I.cne y c e)⟩
  · obtain ⟨w',z⟩:=I.cell y c e
    exact ⟨w',z.sameBut hs (I.cne y c e)⟩
  · obtain ⟨e,n,ne,nf,d⟩:=I.pin p hp
    exact ⟨(hs.2 p.1 ne).trans e,n,ne,nf,d⟩
  · refine (I.hok b ob e).stay (fun c w' hc q=>(hs.2 c ?_).trans q) (fun _ q=>q) fun _ _ q=>q
    rintro rfl
    rcases hc with hc | hc
    · rw [<- hc,I.free] at e;cases e
    · rw [I.free] at hc;cases hc
abbrev zmm (X:Cx) (pn:List (Addr×Obj)) (E:Value->Shared->Prop):Cx:={X with pn:=pn,xe:=E}
abbrev zpe (X:Cx) (v:Value) (E:Value->Shared->Prop):Cx:={X with A:=X.A.mark (some v),calm:=false,xe:=E}
theorem zv9 (I:Inv X pins σ H s) (E:Value->Shared->Prop):Inv (zmm X (X.pn++pins) E) [] σ H s:=
  ⟨⟨I.ok.mod,I.ok.kind,I.ok.glob,I.ok.blt,I.ok.above,I.ok.inj,I.ok.has,I.ok.cab,I.ok.hd,I.ok.frames,I.ok.stk,I.ok.exf,I.ok.bs,I.ok.bsz,I.ok.noex,I.ok.exfs,I.ok.funs,I.ok.frf⟩,I.os,I.bare,I.base,I.loc,I.cell,I.free,I.freeC,fun p hp=>I.pin p (by simpa using hp),I.hok,I.len⟩
theorem zhi {E:Value->Shared->Prop}{pins':List (Addr×Obj)} (I:Inv (zmm X (X.pn++pins) E) pins' σ H s):Inv X pins σ H s:=
  ⟨⟨I.ok.mod,I.ok.kind,I.ok.glob,I.ok.blt,I.ok.above,I.ok.inj,I.ok.has,I.ok.cab,I.ok.hd,I.ok.frames,I.ok.stk,I.ok.exf,I.ok.bs,I.ok.bsz,I.ok.noex,I.ok.exfs,I.ok.funs,I.ok.frf⟩,I.os,I.bare,I.base,I.loc,I.cell,I.free,I.freeC,fun p hp=>I.pin p (List.mem_append_left _ hp),I.hok,I.len⟩
theorem zoc (I:Inv X pins σ H s) (v:Value) (E:Value->Shared->Prop):Inv (zpe X v E) pins σ H s:=
  ⟨⟨I.ok.mod,I.ok.kind,I.ok.glob,I.ok.blt,I.ok.above,I.ok.inj,I.ok.has,I.ok.cab,(fun z=>nomatch z),I.ok.frames,I.ok.stk,I.ok.exf,I.ok.bs,I.ok.bsz,I.ok.noex,I.ok.exfs,I.ok.funs,I.ok.frf⟩,I.os,I.bare,I.base,I.loc,I.cell,I.free,I.freeC,I.pin,I.hok,I.len⟩
theorem zod {v:Value}{E:Value->Shared->Prop} (hh:X.calm=true->X.A.handled=none) (I:Inv (zpe X v E) pins σ H s):Inv X pins σ H s:=
  ⟨⟨I.ok.mod,I.ok.kind,I.ok.glob,I.ok.blt,I.ok.above,I.ok.inj,I.ok.has,I.ok.cab,hh,I.ok.frames,I.ok.stk,I.ok.exf,I.ok.bs,I.ok.bsz,I.ok.noex,I.ok.exfs,I.ok.funs,I.ok.frf⟩,I.os,I.bare,I.base,I.loc,I.cell,I.free,I.freeC,I.pin,I.hok,I.len⟩
end
section
variable {fa:Fa}{X:Cx}{pos np hp:Pos}{x nm:Str}{i:Nat}{body suite:List PySem.Stmt}{b0:PySem.Stmt}{gB gH:GS}
theorem zbv.unset {K:PySem.W.Frag}{μ:Mu}{H:Hp}{σ:L2.St}{ρ:Env} (h:zbv fa K μ H σ ρ) (i:Nat):zbv fa K μ H (σ.set i none) (ρ.set i none):=by
  refine ⟨by simp [h.len],fun j d e=>?_⟩
  by_cases hj:j=i
  · subst hj
    by_cases hl:j < ρ.length
    · rw [List.getElem?_set_self hl] at e;cases e
    · rw [List.getElem?_eq_none (by simpa using hl)] at e;cases e
  · rw [List.getElem?_set_ne (Ne.symm hj)] at e
    obtain ⟨v,h1,h2⟩:=h.at' j d e
    exact ⟨v,by rw [List.getElem?_set_ne (Ne.symm hj)];exact h1,h2⟩
theorem s_try (hc:XCs fa X.K) (hx:∃ D,X.mg x=some (.ref D) /\ fa 999=some D) (hex:X.ex=[]) (hst:X.stack=X.env::X.outer) (hfr:X.env.frame=some X.env.locals) (hN:X.N.Nodup) (hi:X.N[i]?=some nm) (hl:X.env.scope.names.lookup nm=some .local)
    (hg:Gl X x) (hdb:(x==("__debug__":Str))=false) (hb:∀ pn E,DSs fa (zmm X pn E) body gB) (hh:∀ v E,DSs fa (zpe X v E) (b0::suite) gH) :
    DS fa X (.Try body [.ExceptHandler (some (.Name x np)) (some nm) (b0::suite) hp] [] [] pos) (sTry gB i gH):=by
  intro pins s σ H D' I ⟨μ,ρ,M,hE,hM,h⟩
  obtain ⟨D,hmD,hfD⟩:=hx
  obtain ⟨fl,M1,e,q⟩:=zbe h
  refine wpAny_Try_except (wpAny_mono (hb (X.pn++pins) (fun e s₁=>wpAny (model X.prog X.w) X.A (noteFrame e X.env) (fun _ s₂=>wpAny (model X.prog X.w) X.A (setFlight e none) (fun _ s₃=>wpAny (model X.prog X.w) X.A (handleBy e X.env [.ExceptHandler (some (.Name x np)) (some nm) (b0::suite) hp]) (SP X pins D') X.xe s₃) X.xe s₂) X.xe s₁) [] s σ H D' (zv9 I _) ⟨μ,ρ,M,hE,hM,?_⟩) (fun f s1 z=>?_) fun _ _ z=>z)
  · rw [e]
    cases fl with
    | next ρ'=>exact q
    | ret d=>exact q
    | exc y ρ1 =>
      intro pins' σ' H' μ' s' a C dx c p I1 ye hE1 hM1 ey hcC hn fl
      have I1:=I1.pins_of (pins':=[]) (fun p hp=>nomatch hp)
      have hall:∀ p∈X.pn++pins,p.1≠a:=fl.1.2
      refine zsl (P:=X.prog) (w:=X.w) (base:=X.base) (New:=NewX (zmm X (X.pn++pins) _)) (outer:=X.outer) (by rw [<- hst];exact I1.ok.frames) (by rw [<- hst];exact I1.stack) hfr fl (fun b z=>(zq0 I1 hex (Heap.get?_none_of_le z)).1) I1.hok (by rw [<- hst];exact I1.stkFree) fun h' ch hch u hok fl2=>?_
      have I2:Inv X pins σ' H' {s' with heap:=h'}:=zyq (zhi I1) (fun b hb=>⟨(hch b hb).1.1,(hch b hb).2.2,(hch b hb).1.2⟩) (by rw [hst];exact u) hok
      have hcD:=hc.d c C D hcC hfD
      obtain ⟨nw,ha,o,vs,h1,h2,h3,h4,tr⟩:=id fl2
      have hxat:XAt C dx a h':=⟨o,vs,h1,h2,h3,h4,by
        rcases tr with t | ⟨T,oT,ts,t,_⟩
        · exact (Array.getElem?_eq_some_iff.mp t).1
        · exact (Array.getElem?_eq_some_iff.mp t).1⟩
      have hnc:PySem.W.notCls o=true:=by unfold PySem.W.notCls;rw [h4]
      refine wpAny_handleBy_cons (codeAny_handlers_test (zja (zoc I2 (.ref a) X.xe) hg hmD ?_ hdb)) (by intro z;cases z)
      have IA:∃ od,PySem.W.InstAt h' a o C od:=by
        cases p with
        | none =>
          have hn:dx=none:=hn
          exact ⟨none,h1,h2,hnc,by rw [h3,hn];trivial⟩
        | some k =>
          obtain ⟨d,rfl,hd⟩:=hn
          obtain ⟨mA,⟨od,es,ep,ed,_⟩,_⟩:=hok d _ hd
          exact ⟨some od,h1,h2,hnc,by rw [h3];exact ed⟩
      obtain ⟨od,IA⟩:=IA
      refine zr2 I2.kIn IA hcD.2.2.1 hcD.2.2.2 hcD.2.1 ?_
      refine codeAny_handlers_suite_as (zt2 fl2 ?_)
      have I3:Inv X pins σ' (upd H' a (.ext (XAt C dx a))) {s' with heap:=h'}:=zv8 I2 hex ha nw.1 ⟨o,vs,h1,h4⟩ hall ⟨hxat,⟨o,h1⟩,fun g1 g2 ⟨o,vs,k1,k2⟩ kk=>⟨o,vs,kk o k1,k2⟩⟩
      have xa:Ext μ' H' μ' (upd H' a (.ext (XAt C dx a))):=Ext.alloc hM1 ha
      have rp:Rep fa X.K μ' (upd H' a (.ext (XAt C dx a))) y (.ref a):=by
        rw [ey]
        refine ⟨a,C,dx,rfl,hcC,zc8,?_⟩
        cases p with
        | none=>exact hn
        | some k=>exact let ⟨d,z1,z2⟩:=hn;⟨d,z1,by rw [za1 (zbh z2 ha)];exact z2⟩
      refine zpv I3 hN hi (.inl hl) (v:=.ref a) rfl (fun s4 I4=>?_) (.inr hl)
      have q:okE ((gH (ρ1.set i (some y)) M1).bind (xEnd i)) (FlP fa X μ H D'):=q
      obtain ⟨fl3,M2,e3,q3⟩:=zbe q
      refine wpAny_mono (hh (.ref a) _ pins s4 (σ'.set i (some (.ref a))) (upd H' a (.ext (XAt C dx a))) {nx:=fun σ2 H2=>D'.nx (σ2.set i none) H2,rt:=D'.rt} (zoc I4 (.ref a) _) ⟨μ',_,M1,(hE1.ext xa).set rp,hM1.alloc ha,?_⟩) (fun f s5 z=>?_) fun _ _ z=>z
      · rw [e3]
        cases fl3 with
        | next ρ2=>exact fun σ2 H2 μ2 x2 hE2 hM2=>q3 (σ2.set i none) H2 μ2 ((ye.trans xa).trans x2) (hE2.unset i) hM2
        | ret d=>exact zbt.ext q3 (ye.trans xa)
        | exc=>exact q3.elim
      · dsimp only
        cases f with
        | next =>
          obtain ⟨σ5,H5,I5,z⟩:=z
          exact zso (zod I2.ok.hd I5) hN hi hl fun s6 I6=>⟨_,H5,I6,z⟩
        | ret u =>
          obtain ⟨v,σ5,H5,I5,r5,z⟩:=z
          exact zso (zod I2.ok.hd I5) hN hi hl fun s6 I6=>⟨v,_,H5,I6,r5,z⟩
        | brk=>obtain ⟨_,_,_,z⟩:=z;exact z.elim
        | cont=>obtain ⟨_,_,_,z⟩:=z;exact z.elim
  · cases f with
    | next=>obtain ⟨σ5,H5,I5,z⟩:=z;exact wpAny_execs_nil ⟨σ5,H5,zhi I5,z⟩
    | ret u=>obtain ⟨v,σ5,H5,I5,r5,z⟩:=z;exact ⟨v,σ5,H5,zhi I5,r5,z⟩
    | brk=>obtain ⟨σ5,H5,I5,z⟩:=z;exact ⟨σ5,H5,zhi I5,z⟩
    | cont=>obtain ⟨σ5,H5,I5,z⟩:=z;exact ⟨σ5,H5,zhi I5,z⟩
end
def xcsB (K:PySem.W.Frag) (cl:List (Nat×Addr)) (D:Addr):Bool:=PySem.W.mroIn K D (.type "BaseException")==some true&&PySem.W.typeIn K (.ref D)==some (.type "type") &&
  cl.all fun q=>zje K q.2&&PySem.W.mroIn K q.2 (.type "ValueError")==some true&&PySem.W.isIn K (.ref q.2) q.2&&PySem.W.isIn K (.ref q.2) D&&PySem.W.mroIn K q.2 (.ref D)==some true&&cl.all fun r=>r.1==q.1||PySem.W.kin_not K q.2 r.2
def faX (l cl:List (Nat×Addr)) (D:Addr):Fa:=fun i=>if i < 999 then l.lookup i else if i=999 then some D else cl.lookup (i - 1000)
theorem lookup_mem:∀ {l:List (Nat×Addr)}{c:Nat}{C:Addr},l.lookup c=some C->(c,C)∈l
  | [],_,_,h=>by cases h
  | (a, b) :: r, c, C, h => by
    rw [List.lookup_cons] at h
    split at h
    · next e=>cases h;rw [eq_of_beq e];exact List.mem_cons_self
    · exact List.mem_cons_of_mem _ (lookup_mem h)
theorem zkt {l cl:List (Nat×Addr)}{D:Addr}{c:Nat}{C:Addr} (h:faX l cl D (cid c)=some C):(c,C)∈cl:=by
  unfold faX cid at h
  rw [if_neg (by omega),if_neg (by omega),Nat.add_sub_cancel_left] at h
  exact lookup_mem h
theorem xcs_of {K:PySem.W.Frag}{l cl:List (Nat×Addr)}{D:Addr} (h:xcsB K cl D=true):XCs (faX l cl D) K:=by
  unfold xcsB at h
  simp only [Bool.and_eq_true,beq_iff_eq,List.all_eq_true,Bool.or_eq_true] at h
  obtain ⟨⟨h1,h2⟩,h3⟩:=h
  refine ⟨fun c C e=>?_,fun c C D' e e'=>?_,fun c C c' C' e e' n=>?_⟩
  · obtain ⟨⟨⟨⟨⟨a1,a2⟩,a3⟩,a4⟩,a5⟩,a6⟩:=h3 _ (zkt e)
    exact ⟨a1,a2,a3⟩
  · obtain ⟨⟨⟨⟨⟨a1,a2⟩,a3⟩,a4⟩,a5⟩,a6⟩:=h3 _ (zkt e)
    have e':some D=some D':=e'
    cases e'
    exact ⟨a4,a5,h1,h2⟩
  · obtain ⟨⟨⟨⟨⟨a1,a2⟩,a3⟩,a4⟩,a5⟩,a6⟩:=h3 _ (zkt e)
    exact (a6 _ (zkt e')).elim (fun z=>absurd z n) id
end LD
namespace LD
open PySem PySem.Spec PyProof.Rows L2 PySem.SeqAt
def zlq (M:Mem) (x:D):Option (List Bool):=(rdD M x).bind boolsOf
def zt1 (a:GE):GE:=fun ρ M=>(a ρ M).bind fun x M=>match zlq M x with
  | some bs=>.ok (.int (bs.count true)) M
  | none=>.bad
def zt0 (a:GE):GE:=fun ρ M=>(a ρ M).bind fun x M=>match zlq M x with
  | some bs=>if true∈bs then .ok (.int (bs.idxOf true)) M else .bad
  | none=>.bad
def isT:Value->Bool
  | .bool b=>b
  | _=>false
section
variable {fa:Fa}{X:Cx}
theorem eqT {A:Around}{s:Shared}{us:List Value}{bs:List Bool} (h:us=bs.map Value.bool):∀ y,y∈us.toArray->EqAt A s y (.bool true) (isT y):=fun y hy=>by
  have hy:y∈us:=by simpa using hy
  rw [h] at hy
  obtain ⟨b,_,rfl⟩:=List.mem_map.mp hy
  have e:=EqAt.bool_bool (A:=A) (s:=s) b true
  have q:(b==true)=isT (.bool b):=by cases b<;>rfl
  rw [<- q];exact e
theorem cntT {bs:List Bool}:(bs.map Value.bool).countP isT=bs.count true:=by
  induction bs with
  | nil=>rfl
  | cons b r ih=>cases b<;>simp [List.countP_cons,isT,ih]
theorem zoj:∀ {us:List Value}{bs:List Bool},PyProof.Rows.LSm.BoolsAre us bs->us=bs.map Value.bool:=by
  intro us bs h
  induction h with
  | nil=>rfl
  | cons _ _ ih=>simp [ih]
def rCnt (fa:Fa) (K:PySem.W.Frag) (x:V) (vs:List V) (H:Hp) (Q:VK):Prop:=∃ μ ds bs p ws,x=.ref p /\ vs=[.bl true] /\ SqL K H p ws /\ za3 fa K μ H ds ws /\ boolsOf ds=some bs /\ Q (.int (bs.count true)) H
def rIdxT (fa:Fa) (K:PySem.W.Frag) (x:V) (vs:List V) (H:Hp) (Q:VK):Prop:=∃ μ ds bs p ws,x=.ref p /\ vs=[.bl true] /\ SqL K H p ws /\ za3 fa K μ H ds ws /\ boolsOf ds=some bs /\ true∈bs /\ Q (.int (bs.idxOf true)) H
theorem mt_cnt:MtR X "list.count" (rCnt fa X.K):=by
  intro pins s σ H x vs v us Q I rx rv h
  obtain ⟨μ,ds,bs,p,ws,rfl,rfl,hq,rl,eb,q⟩:=h
  cases rx
  obtain ⟨u,rfl,ru⟩:=vals1 rv
  obtain rfl:u=Value.bool true:=ru
  obtain ⟨its,rv,⟨o,n,e1,e2,e3,e4⟩,hz⟩:=I.list hq
  have hb:=zoj (zj3 eb rl rv)
  obtain ⟨oc,od,oda,osl⟩:=o
  obtain rfl:oc=.type "list":=e2
  obtain rfl:oda=.seq its.toArray n:=e4
  refine call_meets PySem.F.slot_list_count ⟨_,e1,rfl⟩ PySem.F.entry_list_count (PySem.F.args_list_count_2 _ _) (PySem.SeqAt.list_countAt p its.toArray n od osl (.bool true) isT) ⟨e1,eqT hb,?_⟩
  have hcnt:its.toArray.toList.countP isT=bs.count true:=by rw [hb,List.toList_toArray];exact cntT
  exact ⟨.int (bs.count true),H,I.tok _,⟨s.toks,by rw [hcnt]⟩,q⟩
theorem mt_idx:MtR X "list.index" (rIdxT fa X.K):=by
  intro pins s σ H x vs v us Q I rx rv h
  obtain ⟨μ,ds,bs,p,ws,rfl,rfl,hq,rl,eb,hm,q⟩:=h
  cases rx
  obtain ⟨u,rfl,ru⟩:=vals1 rv
  obtain rfl:u=Value.bool true:=ru
  obtain ⟨its,rv,⟨o,n,e1,e2,e3,e4⟩,hz⟩:=I.list hq
  have hb:=zoj (zj3 eb rl rv)
  obtain ⟨oc,od,oda,osl⟩:=o
  obtain rfl:oc=.type "list":=e2
  obtain rfl:oda=.seq its.toArray n:=e4
  have hl:bs.idxOf true < bs.length:=List.idxOf_lt_length_of_mem hm
  have hl2:its.length=bs.length:=by rw [hb];simp
  have hz2:its.length≤sizeLine:=by rw [<- rv.length];exact hz
  have hs:((bs.idxOf true:Nat):Int) < 2 ^ 63 - 1:=by
    have:sizeLine < 2 ^ 62:=by decide
    omega
  have at':∀ m (hm:m < its.toArray.size),isT its.toArray[m]=bs[m]'(by simp at hm;omega):=fun m hm=>by subst hb;simp [isT]
  refine call_meets PySem.F.slot_list_index ⟨_,e1,rfl⟩ PySem.F.entry_list_index (PySem.F.args_list_index_2 _ _) (PySem.SeqAt.list_indexAt p its.toArray n od osl (.bool true) isT (bs.idxOf true) (by simp;omega) hs (by rw [at'];simp) fun m hm h=>?_) ⟨e1,eqT hb,?_⟩
  · rw [at']
    have:=List.not_of_lt_findIdx (p:=(·==true)) (xs:=bs) (i:=m) h
    simpa using this
  · exact ⟨.int (bs.idxOf true),H,I.tok _,⟨_,rfl⟩,q⟩
variable {a:PySem.Expr}{ga:GE}{apos cpos kp:Pos}{j:Nat}
theorem r_cntT (ha:DE fa X a ga) (hbase:attributeBase a "count" X.env (eval a X.env)=eval a X.env) (hline:(apos.endLine==cpos.line)=true):DE fa X (.Call (.Attribute a "count" apos) [.Constant (.bool true) j kp] [] cpos) (zt1 ga):=
  zco (ztc PySem.F.plainAttrs_list PySem.F.slot_list_count PySem.F.type_list_count (mt_cnt (fa:=fa)) ha (zdb ztd zfm (by rfl)) hbase (by rfl) hline (by rfl) (by rfl)) fun σ H Q ⟨μ,ρ,M,hE,hM,h⟩=>t1 hE hM h fun x M1 v H1 μ1 x1 hE1 hM1 r1 h1=>by
    cases e3:zlq M1 x with
    | none=>rw [e3] at h1;exact h1.elim
    | some bs=>
        rw [e3] at h1
        obtain ⟨ds,e,e2⟩:=Option.bind_eq_some_iff.mp e3
        obtain ⟨p,ws,rfl,hq,rl⟩:=zcf hM1 r1 e
        exact ⟨.inl ⟨rfl,ws,hq⟩,μ1,ds,bs,p,ws,rfl,rfl,hq,rl,e2,zbm (v:=.int _) hM1 (zbt.ext h1 x1) rfl⟩
theorem r_idxT (ha:DE fa X a ga) (hbase:attributeBase a "index" X.env (eval a X.env)=eval a X.env) (hline:(apos.endLine==cpos.line)=true):DE fa X (.Call (.Attribute a "index" apos) [.Constant (.bool true) j kp] [] cpos) (zt0 ga):=
  zco (ztc PySem.F.plainAttrs_list PySem.F.slot_list_index PySem.F.type_list_index (mt_idx (fa:=fa)) ha (zdb ztd zfm (by rfl)) hbase (by rfl) hline (by rfl) (by rfl)) fun σ H Q ⟨μ,ρ,M,hE,hM,h⟩=>t1 hE hM h fun x M1 v H1 μ1 x1 hE1 hM1 r1 h1=>by
    cases e3:zlq M1 x with
    | none=>rw [e3] at h1;exact h1.elim
    | some bs=>
        rw [e3] at h1
        obtain ⟨ds,e,e2⟩:=Option.bind_eq_some_iff.mp e3
        have h1:okE (if true∈bs then .ok (.int (bs.idxOf true)) M1 else .bad) (zbt fa X.K μ H Q):=h1
        split at h1
        · next hm=>
          obtain ⟨p,ws,rfl,hq,rl⟩:=zcf hM1 r1 e
          exact ⟨.inl ⟨rfl,ws,hq⟩,μ1,ds,bs,p,ws,rfl,rfl,hq,rl,e2,hm,zbm (v:=.int _) hM1 (zbt.ext h1 x1) rfl⟩
        · exact h1.elim
end
end LD
namespace LD
open PySem PySem.Spec PyProof.Rows L2
structure Box (p:Prop):Prop where
  h:p
section
variable {fa:Fa}{X:Cx}{a b c d elt tg iter t2 i2:PySem.Expr}{ga gb gd ge:GE}{ta tb gc:GT}{pos p p2 py spos:Pos}{es:List PySem.Expr}{gs:GA}{n:Nat}{scope:Scope}{own bn:List Str}{t u:Tgt}{gw gw2:GW}{i j:Nat}{x y nm:Str}{np hp apos cpos kp p1:Pos}{body suite:List PySem.Stmt}{b0:PySem.Stmt}{gB gH:GS}
theorem zan {i:Nat}{x:Str} (hN:X.N.Nodup) (hi:X.N[i]?=some x) (hx:Loc X.env.scope x) (hf:X.fn x=true \/ X.env.scope.names.lookup x=some .local):Box (PG X (.Name x pos) (gT fa X.K (.one i))):=⟨z19 hN hi hx hf⟩
theorem zgj (hc:X.calm=true) (hN:X.N.Nodup) {l:List Nat}{ns:List PySem.Expr}{k:Nat} (h:zin X l ns):Box (PG X (.Tuple ns k pos) (gT fa X.K (.tup l))):=⟨dg_tup hc hN h⟩
theorem zgz (ha:Box (DE fa X a ga)):Box (DI fa X tg a (zep ga)):=⟨di_seq ha.h⟩
theorem zd6 (ha:Box (DE fa X a ga)) (hg:Gl X "range") (hm:X.mg "range"=none) (hs:starEach [a] X.env=[(false,eval a X.env)]):Box (DI fa X tg (.Call (.Name "range" p) [a] [] pos) (zdl ga)):=⟨z17 ha.h hg hm hs⟩
theorem zw7 {elts:List PySem.Expr}{kk:Nat}{tp:Pos} (ha:Box (DE fa X a ga)) (hg:Gl X "enumerate") (hm:X.mg "enumerate"=none) (hs:starEach [a] X.env=[(false,eval a X.env)]):Box (DI fa X (.Tuple elts kk tp) (.Call (.Name "enumerate" p) [a] [] pos) (zhr ga)):=⟨z18 ha.h hg hm hs⟩
theorem zw5 {fa:Fa}{X:Cx}{elts:List PySem.Expr}{kk:Nat}{tp p pos:Pos}{e0 e1:PySem.Expr}{g0 g1:Env->Mem->Res D} (h0:Box (DE fa X e0 g0)) (h1:Box (DE fa X e1 g1)) (hg:Gl X "zip") (hm:X.mg "zip"=none) (hs0:starEach [e0,e1] X.env=[(false,eval e0 X.env),(false,eval e1 X.env)]) (hs1:starEach [e1] X.env=[(false,eval e1 X.env)]):Box (DI fa X (.Tuple elts kk tp) (.Call (.Name "zip" p) [e0,e1] [] pos) (zkr g0 g1)):=⟨z15 h0.h h1.h hg hm hs0 hs1⟩
theorem zad {i:Nat}{x:Str} (hN:X.N[i]?=some x) (hv:Vis X.env.scope x) (hd:(x==("__debug__":Str))=false) (hcd:(x==("__classdict__":Str))=false):Box (DE fa X (.Name x pos) (zab i)):=⟨r_var hN hv hd hcd⟩
theorem zaj {i:Int}{j:Nat}:Box (DE fa X (.Constant (.int i) j pos) (gC (.int i))):=⟨r_int⟩
theorem zcy {i:Bool}{j:Nat}:Box (DE fa X (.Constant (.bool i) j pos) (gC (.bl i))):=⟨r_bl⟩
theorem zbr {i:Str}{j:Nat}:Box (DE fa X (.Constant (.str i) j pos) (gC (.str i))):=⟨r_str⟩
theorem zi1 {j:Nat}:Box (DE fa X (.Constant .none j pos) (gC .non)):=⟨r_non⟩
theorem zap (m:Bool) (o:Bin) (ha:Box (DE fa X a ga)) (hb:Box (DE fa X b gb)):Box (DE fa X (.BinOp a (binOp o) b pos) (zat m o ga gb)):=⟨r_bin m o ha.h hb.h⟩
theorem zfl (hu:Rm X) (o:Cmp) (ha:Box (DE fa X a ga)) (hb:Box (DE fa X b gb)) (hm:behindInMarks (zb6 o) b=false):Box (DE fa X (.Compare a [zb6 o] [b] pos) (za8 o ga gb)):=⟨r_cmp hu o ha.h hb.h hm⟩
theorem zbs (hu:Rm X) (o:Cmp) (ha:Box (DE fa X a ga)) (hb:Box (DE fa X b gb)) (hm:behindInMarks (zb6 o) b=false):Box (DT fa X (.Compare a [zb6 o] [b] pos) (zas (za8 o ga gb))):=⟨q_cmp hu o ha.h hb.h hm⟩
theorem zum (hu:Rm X) (o o':Cmp) {gc:GE} (ha:Box (DE fa X a ga)) (hb:Box (DE fa X b gb)) (hc:Box (DE fa X d gc)) (hm:lastMarks [zb6 o,zb6 o'] [b,d]=false):Box (DE fa X (.Compare a [zb6 o,zb6 o'] [b,d] pos) (ziw o o' ga gb gc)):=⟨r_chn hu o o' ha.h hb.h hc.h hm⟩
theorem zun (hu:Rm X) (o o':Cmp) {gc:GE} (ha:Box (DE fa X a ga)) (hb:Box (DE fa X b gb)) (hc:Box (DE fa X d gc)) (hm:lastMarks [zb6 o,zb6 o'] [b,d]=false):Box (DT fa X (.Compare a [zb6 o,zb6 o'] [b,d] pos) (zas (ziw o o' ga gb gc))):=⟨q_chn hu o o' ha.h hb.h hc.h hm⟩
theorem zjw (ha:Box (DE fa X a ga)):Box (DE fa X (.UnaryOp .USub a pos) (zfu ga)):=⟨r_neg ha.h⟩
theorem zea {rest:List PySem.Expr} (ha:Box (DE fa X a ga)) (hb:Box (DE fa X (.BoolOp .And (b::rest) pos) gb)):Box (DE fa X (.BoolOp .And (a::b::rest) pos) (zeq ga gb)):=⟨r_and ha.h hb.h⟩
theorem zfk {op:PySem.BoolOp} (ha:Box (DE fa X a ga)):Box (DE fa X (.BoolOp op [a] pos) ga):=⟨r_one ha.h⟩
theorem xr_not (ha:Box (DE fa X a ga)):Box (DE fa X (.UnaryOp .Not a pos) (gNot ga)):=⟨r_not ha.h⟩
theorem zjy {rest:List PySem.Expr} (ha:Box (DT fa X a ta)) (hb:Box (DW fa X (.BoolOp .And (b::rest) pos) tb)):Box (DW fa X (.BoolOp .And (a::b::rest) pos) (zg3 ta tb)):=⟨q_and ha.h hb.h⟩
theorem zef {rest:List PySem.Expr} (ha:Box (DT fa X a ta)) (hb:Box (DW fa X (.BoolOp .Or (b::rest) pos) tb)):Box (DW fa X (.BoolOp .Or (a::b::rest) pos) (tOr ta tb)):=⟨q_or ha.h hb.h⟩
theorem zmy (ha:Box (DT fa X a ta)):Box (DW fa X (.BoolOp .And [a] pos) ta):=⟨q_and1 ha.h⟩
theorem zeb (ha:Box (DT fa X a ta)):Box (DW fa X (.BoolOp .Or [a] pos) ta):=⟨q_or1 ha.h⟩
theorem ze8 (h:Box (DW fa X a ta)):Box (DT fa X a ta):=⟨q_w h.h⟩
theorem zb9 (ha:Box (DT fa X a ta)):Box (DT fa X (.UnaryOp .Not a pos) (zb4 ta)):=⟨q_not ha.h⟩
theorem zbo (ha:Box (DE fa X a ga)) (he:∀ whole,isTrue a X.env whole=(do let v <- whole;standAt a.pos;holding [v] (truthy v))):Box (DT fa X a (zas ga)):=⟨q_tru ha.h he⟩
theorem zlp {c:PySem.Expr} (hc:Box (DT fa X c ta)) (ha:Box (DE fa X a ga)) (hb:Box (DE fa X b gb)):Box (DE fa X (.IfExp c a b pos) (ziv ta ga gb)):=⟨r_ite hc.h ha.h hb.h⟩
theorem za7 (ha:Box (DE fa X a ga)) (hb:Box (DE fa X b gb)) (hs:zg8 b):Box (DE fa X (.Subscript a b pos) (zax ga gb)):=⟨r_idx ha.h hb.h hs⟩
theorem zgo (m hl hh:Bool) {lo hi:Option PySem.Expr}{gl gh:GE}{p2:Pos} (ha:Box (DE fa X a ga)) (hlo:Box (DO fa X lo hl gl)) (hhi:Box (DO fa X hi hh gh)):Box (DE fa X (.Subscript a (.Slice lo hi none p2) pos) (zdv m hl hh ga gl gh)):=⟨r_slc m hl hh ha.h hlo.h hhi.h⟩
theorem zfq :Box (DO fa X none false (gC .non)):=⟨o_none⟩
theorem zeu (ha:Box (DE fa X a ga)):Box (DO fa X (some a) true ga):=⟨o_some ha.h⟩
theorem zak :Box (DA fa X [] zah):=⟨a_nil⟩
theorem zac (ha:Box (DE fa X a ga)) (hs:Box (DA fa X es gs)) (h0:notStar a=true):Box (DA fa X (a::es) (zaa ga gs)):=⟨a_cons ha.h hs.h h0⟩
theorem zcd {k:Nat} (hs:Box (DA fa X es gs)):Box (DE fa X (.Tuple es k pos) (zbb gs)):=⟨r_tup hs.h⟩
theorem zch (m:Bool) (hs:Box (DA fa X es gs)):Box (DE fa X (.List es pos) (zbq m gs)):=⟨r_lst m hs.h⟩
theorem zao (f:Nat) {x:Str}{call:Call} (C:∀ f,ze7 fa X.prog X.w X.K X.mg X.base n f (call f)) (hr:zbj n X.A) (hg:Gl X x) (hm:∀ ad,fa f=some ad->X.mg x=some (.ref ad)) (hs:Box (DA fa X (a::es) gs)) (hdb:(x==("__debug__":Str))=false) (he:notStar a=true) (hpl:es.all notStar=true):Box (DE fa X (.Call (.Name x p) (a::es) [] pos) (zam f call gs)):=⟨r_call f C hr hg hm hs.h hdb he hpl⟩
theorem zw3 {i:Nat}{x:Str}{call:Call} (C:∀ f,ze7 fa X.prog X.w X.K X.mg X.base n f (call f)) (hr:zbj n X.A) (hN:X.N[i]?=some x) (hv:Vis X.env.scope x) (hs:Box (DA fa X (a::es) gs)) (hd:(x==("__debug__":Str))=false) (hcd:(x==("__classdict__":Str))=false) (he:notStar a=true) (hpl:es.all notStar=true):Box (DE fa X (.Call (.Name x p) (a::es) [] pos) (zjb i call gs)):=⟨z0x C hr hN hv hs.h hd hcd he hpl⟩
theorem zc5 (hg:Gl X "len") (hm:X.mg "len"=none) (hs:Box (DA fa X (a::es) gs)) (he:notStar a=true) (hpl:es.all notStar=true):Box (DE fa X (.Call (.Name "len" p) (a::es) [] pos) (zbg .len gs)):=⟨r_len hg hm hs.h he hpl⟩
theorem zpn (hc:X.calm=true) (hg:Gl X "all") (hm:X.mg "all"=none) (hs:Box (DA fa X (a::es) gs)) (he:notStar a=true) (hpl:es.all notStar=true):Box (DE fa X (.Call (.Name "all" p) (a::es) [] pos) (zbg .all gs)):=⟨r_all hc hg hm hs.h he hpl⟩
theorem zge (hg:Gl X "tuple") (hm:X.mg "tuple"=none) (hs:Box (DA fa X (a::es) gs)) (he:notStar a=true) (hpl:es.all notStar=true):Box (DE fa X (.Call (.Name "tuple" p) (a::es) [] pos) (zbg .tuple gs)):=⟨z0p hg hm hs.h he hpl⟩
theorem zr6 (m:Bool) (hg:Gl X "list") (hm:X.mg "list"=none) (hs:Box (DA fa X (a::es) gs)) (he:notStar a=true) (hpl:es.all notStar=true):Box (DE fa X (.Call (.Name "list" p) (a::es) [] pos) (zbg (.list m) gs)):=⟨r_list m hg hm hs.h he hpl⟩
theorem zb2 (t:Ty) (ht:∀ c,t≠.own c) {x:Str}{p1 p2:Pos} (ha:Box (DE fa X a ga)) (hg:Gl X "isinstance") (hm:X.mg "isinstance"=none) (hgt:Gl X x) (hmt:X.mg x=none) (hvt:bootBuiltins x=some (.type (tyName t))) (hn:x≠"__name__") (hdb:(x==("__debug__":Str))=false) (he:starEach [a,.Name x p1] X.env=(false,eval a X.env)::starEach [.Name x p1] X.env):Box (DE fa X (.Call (.Name "isinstance" p2) [a,.Name x p1] [] pos) (zce t ga)):=⟨r_inst t ht ha.h hg hm hgt hmt hvt hn hdb he⟩
theorem za5 {tg:PySem.Expr}{t:Tgt} (ha:Box (DE fa X a ga)) (hg:Box (PG X tg (gT fa X.K t))) (hs:swapsWithSole [tg] a pos.line X.env=pure false) (hw:swappedStores [tg] a X.env=pure none) (h1:(assignEach [tg] X.env).map (·.2)=[assign tg X.env]):Box (DS fa X (.Assign [tg] a pos) (zav t ga)):=⟨s_asg ha.h hg.h hs hw h1⟩
theorem zh0 {p2:Pos} (ha:Box (DE fa X a ga)) (hb:Box (DE fa X b gb)) (hd:Box (DE fa X d gd)) (h0:∀ v,assign (.Subscript a b p2) X.env v=(do
      let ov <- holding [v] (eval a X.env)
      let iv <- holding [v,ov] (eval b X.env)
      standAt p2
      holding [v,ov,iv] (setItem ov iv v)
      release [v,ov,iv] [])) (hs:swapsWithSole [.Subscript a b p2] d pos.line X.env=pure false) (hw:swappedStores [.Subscript a b p2] d X.env=pure none) (h1:(assignEach [.Subscript a b p2] X.env).map (·.2)=[assign (.Subscript a b p2) X.env]):Box (DS fa X (.Assign [.Subscript a b p2] d pos) (zft ga gb gd)):=⟨s_put ha.h hb.h hd.h h0 hs hw h1⟩
theorem zul {apos cpos:Pos} (ha:Box (DE fa X a ga)) (hd:Box (DE fa X d gd)) (hbase:attributeBase a "append" X.env (eval a X.env)=eval a X.env) (hline:(apos.endLine==cpos.line)=true) (hs:starEach [d] X.env=[(false,eval d X.env)]) (hsw:swapsWith (.Call (.Attribute a "append" apos) [d] [] cpos) none pos.line X.env=pure false):Box (DS fa X (.Expr (.Call (.Attribute a "append" apos) [d] [] cpos) pos) (zis ga gd)):=⟨s_app ha.h hd.h hbase hline hs hsw⟩
theorem zau (ha:Box (DE fa X a ga)):Box (DS fa X (.Return (some a) pos) (zar ga)):=⟨s_ret ha.h⟩
theorem zbc {c:PySem.Expr}{st sf:List PySem.Stmt}{gt gf:GS} (hc:Box (DT fa X c ta)) (ht:Box (DSs fa X st gt)) (hf:Box (DSs fa X sf gf)):Box (DS fa X (.If c st sf pos) (za4 ta gt gf)):=⟨s_ite hc.h ht.h hf.h⟩
theorem zi0 {t:Tgt}{tg:PySem.Expr}{body:List PySem.Stmt}{gw:GW}{gb:GS} (hp:PassesOwn (model X.prog X.w) X.A X.env X.xe) (hc:X.calm=true) (hi:Box (DI fa X tg a gw)) (hg:Box (PG X tg (gT fa X.K t))) (hb:Box (DSs fa X body gb)) (hs:∀ x,foldedSetIterable a X.env x=pure x):Box (DS fa X (.For tg a body [] pos) (zd3 t gw gb)):=⟨s_for hp hc hi.h hg.h hb.h hs⟩
theorem zal :Box (DSs fa X [] zai):=⟨ss_nil⟩
theorem zaf {st:PySem.Stmt}{ss:List PySem.Stmt}{g g':GS} (h1:Box (DS fa X st g)) (h2:Box (DSs fa X ss g')):Box (DSs fa X (st::ss) (zae g g')):=⟨z0c h1.h h2.h⟩
theorem zwz (m:Bool) {p1 p2 pos2:Pos} (hc:X.calm=true) (ha:Box (DE fa X a ga)) (hgl:Gl X "list") (hml:X.mg "list"=none) (hg:Gl X "range") (hm:X.mg "range"=none) (hs:starEach [a] X.env=[(false,eval a X.env)]) (hs2:starEach [.Call (.Name "range" p2) [a] [] pos2] X.env=[(false,eval (.Call (.Name "range" p2) [a] [] pos2) X.env)]):Box (DE fa X (.Call (.Name "list" p1) [.Call (.Name "range" p2) [a] [] pos2] [] pos) (zj9 m ga)):=⟨z0q m hc ha.h hgl hml hg hm hs hs2⟩
theorem zez (m:Bool) (S:zer X own bn scope) (hc:X.calm=true) (hi:Box (DI fa X tg iter gw)) (pg:∀ cl C fp s H,Box (PG (zbz X own bn scope cl C fp s H) tg (gT fa X.K t))) (he:∀ cl C fp s H,Box (DE fa (zbz X own bn scope cl C fp s H) elt ge)) (hn:(slots t).all (· < own.length)=true) (hs:∀ x,foldedSetIterable iter X.env x=pure x):Box (DE fa X (.ListComp elt [⟨tg,iter,[],0⟩] scope pos) (zb3 m own.length t gw (zb7 ge))):=⟨z0w m S hc hi.h (fun cl C fp s H=>(pg cl C fp s H).h) (fun cl C fp s H=>(he cl C fp s H).h) hn hs⟩
theorem zjx (m:Bool) (S:zer X own bn scope) (hc:X.calm=true) (hi:Box (DI fa X tg iter gw)) (pg:∀ cl C fp s H,Box (PG (zbz X own bn scope cl C fp s H) tg (gT fa X.K t))) (ht:∀ cl C fp s H,Box (DT fa (zbz X own bn scope cl C fp s H) c gc)) (he:∀ cl C fp s H,Box (DE fa (zbz X own bn scope cl C fp s H) elt ge)) (hn:(slots t).all (· < own.length)=true) (hs:∀ x,foldedSetIterable iter X.env x=pure x):Box (DE fa X (.ListComp elt [⟨tg,iter,[c],0⟩] scope pos) (zb3 m own.length t gw (gIf gc (zb7 ge)))):=⟨zxz m S hc hi.h (fun cl C fp s H=>(pg cl C fp s H).h) (fun cl C fp s H=>(ht cl C fp s H).h) (fun cl C fp s H=>(he cl C fp s H).h) hn hs⟩
theorem zuk (m:Bool) (S:zer X own bn scope) (hc:X.calm=true) (hi:Box (DI fa X tg iter gw)) (pg:∀ cl C fp s H,Box (PG (zbz X own bn scope cl C fp s H) tg (gT fa X.K t))) (ht:∀ cl C fp s H,Box (DT fa (zbz X own bn scope cl C fp s H) c gc)) (he:∀ cl C fp s H,Box (DE fa (zbz X own bn scope cl C fp s H) elt ge)) (hn:(slots t).all (· < own.length)=true) (hs:∀ x,foldedSetIterable iter X.env x=pure x) (hN:X.N.Nodup) (hy:X.N[i]?=some y) (hl:X.env.scope.names.lookup y=some .local) (hsw:swapsWith (.ListComp elt [⟨tg,iter,[c],0⟩] scope pos) (some (.Name y py)) spos.line X.env=pure true):Box (DS fa X (.Assign [.Name y py] (.ListComp elt [⟨tg,iter,[c],0⟩] scope pos) spos) (zav (.one i) (zb3 m own.length t gw (gIf gc (zb7 ge))))):=⟨zxt m S hc hi.h (fun cl C fp s H=>(pg cl C fp s H).h) (fun cl C fp s H=>(ht cl C fp s H).h) (fun cl C fp s H=>(he cl C fp s H).h) hn hs hN hy hl hsw⟩
theorem zwy (m:Bool) (S:zer X own bn scope) (hc:X.calm=true) (hi:Box (DI fa X tg iter gw)) (pg:∀ cl C fp s H,Box (PG (zbz X own bn scope cl C fp s H) tg (gT fa X.K t))) (hi2:∀ cl C fp s H,Box (DI fa (zbz X own bn scope cl C fp s H) t2 i2 gw2)) (pg2:∀ cl C fp s H,Box (PG (zbz X own bn scope cl C fp s H) t2 (gT fa X.K u))) (he:∀ cl C fp s H,Box (DE fa (zbz X own bn scope cl C fp s H) elt ge)) (hn:(slots t++slots u).all (· < own.length)=true) (hW:(slots u).all (fun i=>!(slots t).contains i)=true) (hs:∀ x,foldedSetIterable iter X.env x=pure x) (hs2:∀ cl C fp s H,∀ x,foldedSetIterable i2 (zbz X own bn scope cl C fp s H).env x=pure x) (hN:X.N.Nodup) (hy:X.N[i]?=some y) (hl:X.env.scope.names.lookup y=some .local) (hsw:swapsWith (.ListComp elt [⟨tg,iter,[],0⟩,⟨t2,i2,[],0⟩] scope pos) (some (.Name y py)) spos.line X.env=pure true):Box (DS fa X (.Assign [.Name y py] (.ListComp elt [⟨tg,iter,[],0⟩,⟨t2,i2,[],0⟩] scope pos) spos) (zav (.one i) (zb3 m own.length t gw (zli u gw2 (zb7 ge))))):=⟨z0l m S hc hi.h (fun cl C fp s H=>(pg cl C fp s H).h) (fun cl C fp s H=>(hi2 cl C fp s H).h) (fun cl C fp s H=>(pg2 cl C fp s H).h) (fun cl C fp s H=>(he cl C fp s H).h) hn hW hs hs2 hN hy hl hsw⟩
theorem zh1 {x:Str}{i:Int} (hg:Gl X x) (hm:∃ t,X.mg x=some (.int i t)) (hd:(x==("__debug__":Str))=false):Box (DE fa X (.Name x pos) (gC (.int i))):=⟨z0u hg hm hd⟩
theorem zw2 {x:Str}{b:PySem.Expr}{gb:GE}{p:Pos}{fs:List (Str×Nat)} (h:∃ ad kvs,X.mg x=some (.ref ad) /\ zgy X.K X.w.params ad kvs /\ ze4 fa kvs fs) (hg:Gl X x) (hdb:(x==("__debug__":Str))=false) (hb:Box (DE fa X b gb)) (hs:zg8 b):Box (DE fa X (.Subscript (.Name x p) b pos) (zjo fs gb)):=⟨z0v h hg hdb hb.h hs⟩
theorem zw4 {x:Str}{a:PySem.Expr}{ga:GE}{p:Pos}{fs:List (Str×Nat)} (h:∃ ad kvs,X.mg x=some (.ref ad) /\ zgy X.K X.w.params ad kvs /\ ze4 fa kvs fs) (hg:Gl X x) (hdb:(x==("__debug__":Str))=false) (ha:Box (DE fa X a ga)) (hmk:behindInMarks .NotIn (.Name x p)=false):Box (DT fa X (.Compare a [.NotIn] [.Name x p] pos) (zas (zjn fs ga))):=⟨z00 h hg hdb ha.h hmk⟩
theorem xr_rev (m:Bool) {pc pu:Pos}{k:Nat} (ha:Box (DE fa X a ga)):Box (DE fa X (.Subscript a (.Slice none none (some (.UnaryOp .USub (.Constant (.int 1) k pc) pu)) p2) pos) (gRev m ga)):=⟨r_rev m ha.h⟩
theorem zr5 (hl hh:Bool) {lo hi:Option PySem.Expr}{gl gh:GE} (ha:Box (DE fa X a ga)) (hlo:Box (DO fa X lo hl gl)) (hhi:Box (DO fa X hi hh gh)):Box (DE fa X (.Subscript a (.Slice lo hi none p2) pos) (zks hl hh ga gl gh)):=⟨r_slcS hl hh ha.h hlo.h hhi.h⟩
theorem zw6 (ha:Box (DE fa X a ga)):Box (DI fa X tg a (zmn ga)):=⟨z16 ha.h⟩
theorem zpm {fa:Fa}{X:Cx}{e:PySem.Expr}:Box (DE fa X e gBad):=⟨r_bad⟩
theorem zr4 (f:Nat) {x:Str}{call:Call} (C:∀ f,ze7 fa X.prog X.w X.K X.mg X.base n f (call f)) (hr:zbj n X.A) (hex:X.ex=[]) (hg:Gl X x) (hm:∀ ad,fa f=some ad->X.mg x=some (.ref ad)) (hs:Box (DA fa X (a::es) gs)) (hdb:(x==("__debug__":Str))=false) (he:notStar a=true) (hpl:es.all notStar=true):Box (DX fa X (.Call (.Name x p) (a::es) [] pos) (zig f call gs)):=⟨x_call f C hr hex hg hm hs.h hdb he hpl⟩
theorem xs_exX (ha:Box (DX fa X a ga)) (hs:swapsWith a none pos.line X.env=pure false):Box (DS fa X (.Expr a pos) (sExX ga)):=⟨s_exX ha.h hs⟩
theorem zz3 {tg:PySem.Expr}{t:Tgt} (ha:Box (DX fa X a ga)) (hg:Box (PG X tg (gT fa X.K t))) (hs:swapsWithSole [tg] a pos.line X.env=pure false) (hw:swappedStores [tg] a X.env=pure none) (h1:(assignEach [tg] X.env).map (·.2)=[assign tg X.env]):Box (DS fa X (.Assign [tg] a pos) (zko t ga)):=⟨s_asgX ha.h hg.h hs hw h1⟩
theorem zwx (c:Nat) {x:Str}{np cpos:Pos} (hx:∃ C,X.mg x=some (.ref C) /\ fa (cid c)=some C /\ PySem.W.excIn X.K C bmV "ValueError.__new__"=true) (hex:X.ex=[]) (hg:Gl X x) (hc:X.calm=true) (hs:Box (DA fa X (a::es) gs)) (hdb:(x==("__debug__":Str))=false) (he:notStar a=true) (hpl:es.all notStar=true):Box (DS fa X (.Raise (some (.Call (.Name x np) (a::es) [] cpos)) none pos) (zi6 c gs)):=⟨z0k c hx hex hg hc hs.h hdb he hpl⟩
theorem zdg (k:Nat) (hc:XCs fa X.K) (hx:∃ D,X.mg x=some (.ref D) /\ fa (cid k)=some D) (ha:Box (DE fa X a ga)) (hg:Gl X "isinstance") (hm:X.mg "isinstance"=none) (hgt:Gl X x) (hdb:(x==("__debug__":Str))=false) (he:starEach [a,.Name x p1] X.env=(false,eval a X.env)::starEach [.Name x p1] X.env):Box (DE fa X (.Call (.Name "isinstance" p2) [a,.Name x p1] [] pos) (zcp (some k) ga)):=⟨z0r k hc hx ha.h hg hm hgt hdb he⟩
theorem zw1 (hc:XCs fa X.K) (hx:∃ D,X.mg x=some (.ref D) /\ fa 999=some D) (ha:Box (DE fa X a ga)) (hg:Gl X "isinstance") (hm:X.mg "isinstance"=none) (hgt:Gl X x) (hdb:(x==("__debug__":Str))=false) (he:starEach [a,.Name x p1] X.env=(false,eval a X.env)::starEach [.Name x p1] X.env):Box (DE fa X (.Call (.Name "isinstance" p2) [a,.Name x p1] [] pos) (zcp none ga)):=⟨z0t hc hx ha.h hg hm hgt hdb he⟩
theorem zw0 (hc:XCs fa X.K) (ha:Box (DE fa X a ga)) (hg:Gl X "isinstance") (hm:X.mg "isinstance"=none) (hgt:Gl X "ValueError") (hmt:X.mg "ValueError"=none) (he:starEach [a,.Name "ValueError" p1] X.env=(false,eval a X.env)::starEach [.Name "ValueError" p1] X.env):Box (DE fa X (.Call (.Name "isinstance" p2) [a,.Name "ValueError" p1] [] pos) (zcp none ga)):=⟨z0s hc ha.h hg hm hgt hmt he⟩
theorem xs_try (hc:XCs fa X.K) (hx:∃ D,X.mg x=some (.ref D) /\ fa 999=some D) (hex:X.ex=[]) (hst:X.stack=X.env::X.outer) (hfr:X.env.frame=some X.env.locals) (hN:X.N.Nodup) (hi:X.N[i]?=some nm) (hl:X.env.scope.names.lookup nm=some .local) (hg:Gl X x) (hdb:(x==("__debug__":Str))=false) (hb:∀ pn E,Box (DSs fa (zmm X pn E) body gB)) (hh:∀ v E,Box (DSs fa (zpe X v E) (b0::suite) gH)):Box (DS fa X (.Try body [.ExceptHandler (some (.Name x np)) (some nm) (b0::suite) hp] [] [] pos) (sTry gB i gH)):=⟨s_try hc hx hex hst hfr hN hi hl hg hdb (fun pn E=>(hb pn E).h) (fun v E=>(hh v E).h)⟩
theorem zz5 (ha:Box (DE fa X a ga)) (hbase:attributeBase a "count" X.env (eval a X.env)=eval a X.env) (hline:(apos.endLine==cpos.line)=true):Box (DE fa X (.Call (.Attribute a "count" apos) [.Constant (.bool true) j kp] [] cpos) (zt1 ga)):=⟨r_cntT ha.h hbase hline⟩
theorem zz4 (ha:Box (DE fa X a ga)) (hbase:attributeBase a "index" X.env (eval a X.env)=eval a X.env) (hline:(apos.endLine==cpos.line)=true):Box (DE fa X (.Call (.Attribute a "index" apos) [.Constant (.bool true) j kp] [] cpos) (zt0 ga)):=⟨r_idxT ha.h hbase hline⟩
theorem unbox {st:List PySem.Stmt}{g:GS} (h:Box (DSs fa X st g)):DSs fa X st g:=h.h
end
end LD
namespace LD
open PySem
def zdw:List (Str×Nat):=[("turn",7),("join",8),("move",9),("put",10)]
def zq4:List (Str×Nat):=[("turn",20),("join",21),("move",22),("put",23)]
def zfz (c:Call):GS:=zae (za4 (tOr (zas (zce .bool (zab 0))) (zb4 (zas (zce .int (zab 0))))) (zae (zar (gC (.bl false))) (zai)) (zai)) (zae (zar (ziw .le .le (zab 1) (zab 0) (zab 2))) (zai))
def zhk (c:Call):GS:=zae (zar (zam 0 c (zaa (zab 1) (zaa (gC (.int 0)) (zaa (zat false .sub (zab 0) (gC (.int 1))) (zah)))))) (zai)
def zgv (c:Call):GS:=zae (zar (zam 0 c (zaa (zab 1) (zaa (gC (.int 0)) (zaa (zat false .sub (zab 0) (gC (.int 1))) (zah)))))) (zai)
def zhl (c:Call):GS:=zae (zar (zam 0 c (zaa (zab 0) (zaa (gC (.int 1)) (zaa (gC (.int 3)) (zah)))))) (zai)
def zfo (c:Call):GS:=zae (zar (zeq (zce .tuple (zab 1)) (za8 .eq (zbg .len (zaa (zab 1) (zah))) (zab 0)))) (zai)
def zgu (c:Call):GS:=zae (zar (zeq (zam 4 c (zaa (zab 0) (zaa (zab 1) (zah)))) (zbg .all (zaa (zb3 false 1 (.one 0) (zep (zab 1)) (zb7 (zam 1 c (zaa (zab 1) (zaa (zab 0) (zah)))))) (zah))))) (zai)
def zed (c:Call):GS:=zae (zar (zeq (zam 4 c (zaa (zab 0) (zaa (zab 1) (zah)))) (zbg .all (zaa (zb3 false 1 (.one 0) (zep (zab 1)) (zb7 (zam 5 c (zaa (zab 1) (zaa (zab 0) (zah)))))) (zah))))) (zai)
def zgl (c:Call):GS:=zae (za4 (zas (za8 .ne (zbg .len (zaa (zab 2) (zah))) (gC (.int 3)))) (zae (zar (gC (.bl false))) (zai)) (zai)) (zae (zav (.tup [3,4,5]) (zab 2)) (zae (zar (zeq (zam 2 c (zaa (zab 1) (zaa (zab 3) (zah)))) (zeq (zam 5 c (zaa (zab 0) (zaa (zab 4) (zah)))) (zam 3 c (zaa (zab 5) (zah)))))) (zai)))
def zgn (c:Call):GS:=zae (za4 (zas (za8 .ne (zbg .len (zaa (zab 2) (zah))) (gC (.int 4)))) (zae (zar (gC (.bl false))) (zai)) (zai)) (zae (zav (.tup [3,4,5,6]) (zab 2)) (zae (za4 (tOr (zb4 (zas (zam 2 c (zaa (zab 1) (zaa (zab 3) (zah)))))) (zb4 (zas (zam 2 c (zaa (zab 1) (zaa (zab 4) (zah))))))) (zae (zar (gC (.bl false))) (zai)) (zai)) (zae (zar (zeq (zam 6 c (zaa (zab 0) (zaa (zab 5) (zah)))) (zam 3 c (zaa (zab 6) (zah))))) (zai))))
def zgm (c:Call):GS:=zae (za4 (zas (za8 .ne (zbg .len (zaa (zab 2) (zah))) (gC (.int 3)))) (zae (zar (gC (.bl false))) (zai)) (zai)) (zae (zav (.tup [3,4,5]) (zab 2)) (zae (zar (zeq (zam 2 c (zaa (zab 1) (zaa (zab 3) (zah)))) (zeq (zam 2 c (zaa (zab 1) (zaa (zab 4) (zah)))) (zam 3 c (zaa (zab 5) (zah)))))) (zai)))
def zg7 (c:Call):GS:=zae (za4 (zas (za8 .ne (zbg .len (zaa (zab 2) (zah))) (gC (.int 3)))) (zae (zar (gC (.bl false))) (zai)) (zai)) (zae (zav (.tup [3,4,5]) (zab 2)) (zae (zar (zeq (zam 2 c (zaa (zab 1) (zaa (zab 3) (zah)))) (zeq (zam 1 c (zaa (zab 0) (zaa (zab 4) (zah)))) (zam 3 c (zaa (zab 5) (zah)))))) (zai)))
def zfy (c:Call):GS:=zae (za4 (tOr (zb4 (zas (zce .tuple (zab 2)))) (zb4 (zas (zab 2)))) (zae (zar (gC (.bl false))) (zai)) (zai)) (zae (zav (.one 3) (zax (zab 2) (gC (.int 0)))) (zae (za4 (tOr (zb4 (zas (zce .str (zab 3)))) (zas (zjn zdw (zab 3)))) (zae (zar (gC (.bl false))) (zai)) (zai)) (zae (zav (.one 4) (zjo zdw (zab 3))) (zae (zar (zjb 4 c (zaa (zab 0) (zaa (zab 1) (zaa (zdv false true false (zab 2) (gC (.int 1)) (gC .non)) (zah)))))) (zai)))))
def ze6 (c:Call):GS:=zae (za4 (zb4 (zas (zam 4 c (zaa (gC (.int 3)) (zaa (zab 0) (zah)))))) (zae (zar (gC (.bl false))) (zai)) (zai)) (zae (zav (.tup [1,2,3]) (zab 0)) (zae (za4 (tOr (zb4 (zas (zam 0 c (zaa (zab 1) (zaa (gC (.int 2)) (zaa (gC (.int 4)) (zah))))))) (zb4 (zas (zam 0 c (zaa (zab 2) (zaa (gC (.int 1)) (zaa (gC (.int 2)) (zah)))))))) (zae (zar (gC (.bl false))) (zai)) (zai)) (zae (za4 (tOr (zb4 (zas (zce .tuple (zab 3)))) (zb4 (zas (ziw .le .le (gC (.int 1)) (zbg .len (zaa (zab 3) (zah))) (gC (.int 6)))))) (zae (zar (gC (.bl false))) (zai)) (zai)) (zae (zar (zbg .all (zaa (zb3 false 1 (.one 0) (zep (zab 3)) (zb7 (zam 11 c (zaa (zab 2) (zaa (zab 3) (zaa (zab 0) (zah))))))) (zah)))) (zai)))))
def zcc (c:Call):GS:=zae (za4 (zb4 (zas (zam 12 c (zaa (zab 0) (zah))))) (zae (zi6 3 (zaa (gC (.str "this is no machine")) (zah))) (zai)) (zai)) (zai)
def znw (c:Call):GS:=zae (zav (.tup [2,3,4]) (zab 0)) (zae (zar (zeq (zam 4 c (zaa (zab 3) (zaa (zab 1) (zah)))) (zbg .all (zaa (zb3 false 1 (.one 0) (zep (zab 1)) (zb7 (zam 1 c (zaa (zab 3) (zaa (zab 0) (zah)))))) (zah))))) (zai))
def zkg (c:Call):GS:=zae (sEx (zam 13 c (zaa (zab 0) (zah)))) (zae (zav (.tup [1,2,3]) (zab 0)) (zae (zav (.one 4) (zbq false (zaa (zbb (zah)) (zah)))) (zae (zd3 (.one 5) (zdl (zab 2)) (zae (zav (.one 4) (zb3 false 2 (.one 0) (zep (zab 4)) (zli (.one 1) (zdl (zab 3)) (zb7 (zat false .add (zab 0) (zbb (zaa (zab 1) (zah)))))))) (zai))) (zae (zar (zab 4)) (zai)))))
def zll (c:Call):GS:=zae (zar (zam 0 c (zaa (zab 1) (zaa (gC (.int 0)) (zaa (zat false .sub (zbg .len (zaa (zax (zab 0) (gC (.int 2))) (zah))) (gC (.int 1))) (zah)))))) (zai)
def znv (c:Call):GS:=zae (za4 (zb4 (zas (zce .list (zab 1)))) (zae (zld) (zai)) (zai)) (zae (zd3 (.tup [2,3]) (zhr (zab 1)) (zae (za4 (zb4 (zas (zam 16 c (zaa (zab 0) (zaa (zab 3) (zah)))))) (zae (zld) (zai)) (zai)) (zai))) (zai))
def zuc (c:Call):GS:=zae (sEx (zam 13 c (zaa (zab 0) (zah)))) (zae (sEx (zam 17 c (zaa (zab 0) (zaa (zab 1) (zah))))) (zae (za4 (zas (za8 .gt (zbg .len (zaa (zab 1) (zah))) (gC (.int 40)))) (zae (zld) (zai)) (zai)) (zai)))
def b_cost (c:Call):GS:=zae (sEx (zam 18 c (zaa (zab 0) (zaa (zab 1) (zah))))) (zae (zar (zam 47 c (zaa (zab 0) (zaa (zab 1) (zah))))) (zai))
def zy5 (c:Call):GS:=zae (zav (.tup [2,3,4,5]) (zab 0)) (zae (zar (zax (zab 4) (zax (zab 1) (zab 3)))) (zai))
def zy8 (c:Call):GS:=zae (zav (.tup [2,3,4,5,6]) (zab 0)) (zae (zar (zax (zax (zab 5) (zax (zab 1) (zab 3))) (zax (zab 1) (zab 4)))) (zai))
def z2i (c:Call):GS:=zae (zav (.tup [2,3,4,5]) (zab 0)) (zae (zar (zax (zab 1) (zab 4))) (zai))
def zy6 (c:Call):GS:=zae (zav (.tup [2,3,4,5]) (zab 0)) (zae (zar (zab 4)) (zai))
def b_done (c:Call):GS:=zae (zav (.one 2) (zjo zq4 (zax (zab 0) (gC (.int 0))))) (zae (zav (.one 3) (zax (zab 0) (gC (.int 1)))) (zae (zar (zat false .add (zat false .add (zdv false false true (zab 1) (gC .non) (zab 3)) (zbb (zaa (zjb 2 c (zaa (zab 0) (zaa (zab 1) (zah)))) (zah)))) (zdv false true false (zab 1) (zat false .add (zab 3) (gC (.int 1))) (gC .non)))) (zai)))
def znx (c:Call):GS:=zae (zav (.one 3) (zbq true (zaa (zab 2) (zah)))) (zae (zd3 (.one 4) (zep (zab 1)) (zae (zis (zab 3) (zam 24 c (zaa (zax (zax (zab 0) (gC (.int 2))) (zab 4)) (zaa (zax (zab 3) (zfu (gC (.int 1)))) (zah))))) (zai))) (zae (zar (zab 3)) (zai)))
def b_run (c:Call):GS:=zae (sEx (zam 18 c (zaa (zab 0) (zaa (zab 1) (zah))))) (zae (za4 (zb4 (zas (zam 14 c (zaa (zab 0) (zaa (zab 2) (zah)))))) (zae (zld) (zai)) (zai)) (zae (zar (zam 25 c (zaa (zab 0) (zaa (zab 1) (zaa (zab 2) (zah)))))) (zai)))
def zk6 (c:Call):GS:=zae (sEx (zam 18 c (zaa (zab 0) (zaa (zab 1) (zah))))) (zae (zar (zam 46 c (zaa (zab 0) (zaa (zab 1) (zah))))) (zai))
def zgc (c:Call):GS:=zae (za4 (zas (za8 .ge (zab 0) (zat false .pow (gC (.int 10)) (gC (.int 18))))) (zae (zar (zab 0)) (zai)) (zai)) (zae (zav (.one 2) (zbq false (zaa (gC (.int 2147483629)) (zaa (gC (.int 2147483587)) (zaa (gC (.int 2147483579)) (zaa (gC (.int 2147483563)) (zaa (gC (.int 2147483549)) (zaa (gC (.int 2147483543)) (zaa (gC (.int 2147483497)) (zaa (gC (.int 2147483489)) (zah))))))))))) (zae (zav (.one 2) (zat false .add (zab 2) (zbq false (zaa (gC (.int 2147483477)) (zaa (gC (.int 2147483423)) (zaa (gC (.int 2147483399)) (zaa (gC (.int 2147483353)) (zaa (gC (.int 2147483323)) (zah))))))))) (zae (zav (.one 3) (zat false .mod (zat false .pow (zat false .add (zat false .add (zat false .mul (zat false .mod (zab 0) (gC (.int 1000000007))) (zat false .add (zat false .mul (gC (.int 2)) (zab 1)) (gC (.int 69069)))) (zat false .mul (zab 1) (gC (.int 40503)))) (gC (.int 977))) (gC (.int 3))) (zax (zab 2) (zat false .mod (zab 1) (gC (.int 13)))))) (zae (zav (.one 4) (zat false .mod (zat false .pow (zat false .add (zat false .add (zat false .mul (zab 3) (zat false .add (zab 1) (gC (.int 3)))) (zat false .mod (zab 0) (gC (.int 65537)))) (gC (.int 5))) (gC (.int 5))) (zax (zab 2) (zat false .mod (zat false .add (zab 1) (gC (.int 5))) (gC (.int 13)))))) (zae (zav (.one 5) (zat false .mod (zat false .pow (zat false .add (zat false .add (zab 4) (zat false .mod (zab 3) (gC (.int 1009)))) (zab 1)) (gC (.int 3))) (zax (zab 2) (zat false .mod (zat false .add (zab 1) (gC (.int 7))) (gC (.int 13)))))) (zae (zar (zat false .add (zat false .mul (zat false .add (zat false .mul (zab 3) (gC (.int 2147483647))) (zab 4)) (gC (.int 2147483647))) (zab 5))) (zai)))))))
def zhb (c:Call):GS:=zae (zav (.one 1) (zbg (.list true) (zaa (zdv false false true (zab 0) (gC .non) (gC (.int 12))) (zah)))) (zae (zd3 (.tup [2,3]) (zhr (zdv false true true (zab 0) (gC (.int 12)) (gC (.int 63)))) (zae (zft (zab 1) (zat false .mod (zab 2) (gC (.int 12))) (zat false .add (zax (zab 1) (zat false .mod (zab 2) (gC (.int 12)))) (zab 3))) (zai))) (zae (zar (zbq true (zaa (zab 1) (zaa (gC (.int 0)) (zaa (gC (.int 0)) (zah)))))) (zai)))
def zhd (c:Call):GS:=zae (zft (zab 0) (gC (.int 2)) (gC (.int 0))) (zae (zar (zab 0)) (zai))
def zix (c:Call):GS:=zae (za4 (zas (za8 .lt (zax (zab 0) (gC (.int 2))) (zab 1))) (zae (zav (.one 2) (zax (zab 0) (gC (.int 1)))) (zae (zav (.one 3) (gC (.int 0))) (zae (za4 (zas (za8 .lt (zab 2) (zbg .len (zaa (zax (zab 0) (gC (.int 0))) (zah))))) (zae (zav (.one 3) (zax (zax (zab 0) (gC (.int 0))) (zab 2))) (zai)) (zae (za4 (zas (za8 .gt (zbg .len (zaa (zax (zab 0) (gC (.int 0))) (zah))) (gC (.int 0)))) (zae (zav (.one 3) (zat false .mod (zax (zax (zab 0) (gC (.int 0))) (zat false .mod (zat false .add (zat false .mul (zab 2) (gC (.int 5))) (gC (.int 3))) (zbg .len (zaa (zax (zab 0) (gC (.int 0))) (zah))))) (zat false .add (zat false .pow (gC (.int 10)) (gC (.int 17))) (zab 2)))) (zai)) (zai)) (zai))) (zae (zft (zab 0) (gC (.int 1)) (zat false .add (zab 2) (gC (.int 1)))) (zae (zft (zab 0) (gC (.int 2)) (zam 28 c (zaa (zab 3) (zaa (zab 2) (zah))))) (zai)))))) (zai)) (zae (zav (.one 4) (zat false .mod (zax (zab 0) (gC (.int 2))) (zab 1))) (zae (zft (zab 0) (gC (.int 2)) (zat false .fdiv (zax (zab 0) (gC (.int 2))) (zab 1))) (zae (zar (zab 4)) (zai))))
def zhu (c:Call):GS:=zae (zav (.one 2) (zam 31 c (zaa (zab 0) (zaa (gC (.int 6)) (zah))))) (zae (zav (.one 3) (zam 31 c (zaa (zab 0) (zaa (zab 1) (zah))))) (zae (zav (.one 4) (zam 31 c (zaa (zab 0) (zaa (zab 1) (zah))))) (zae (za4 (zas (za8 .lt (zab 2) (gC (.int 2)))) (zae (zar (zbg .tuple (zaa (zb3 false 1 (.one 0) (zdl (zab 1)) (zb7 (zam 31 c (zaa (zab 1) (zaa (zab 2) (zah)))))) (zah)))) (zai)) (zai)) (zae (za4 (zas (za8 .eq (zab 2) (gC (.int 2)))) (zae (zar (zbg .tuple (zaa (zb3 false 1 (.one 0) (zdl (zab 1)) (zb7 (zat false .mod (zat false .add (zat false .add (zab 0) (gC (.int 1))) (zab 4)) (zab 2)))) (zah)))) (zai)) (zai)) (zae (za4 (zas (za8 .eq (zab 2) (gC (.int 3)))) (zae (zar (zbg .tuple (zaa (zb3 false 1 (.one 0) (zdl (zab 1)) (zb7 (ziv (zas (za8 .eq (zab 0) (zab 4))) (zab 5) (zab 0)))) (zah)))) (zai)) (zai)) (zae (za4 (zas (za8 .eq (zab 2) (gC (.int 4)))) (zae (zar (zat false .mul (zbb (zaa (zab 3) (zah))) (zab 1))) (zai)) (zai)) (zae (zav (.one 5) (zj9 true (zab 1))) (zae (zft (zab 5) (zab 3) (zab 4)) (zae (zft (zab 5) (zab 4) (zab 3)) (zae (zar (zbg .tuple (zaa (zab 5) (zah)))) (zai)))))))))))
def zhc (c:Call):GS:=zae (zav (.one 3) (zam 31 c (zaa (zab 0) (zaa (gC (.int 8)) (zah))))) (zae (zav (.one 4) (zat false .add (gC (.int 1)) (zam 31 c (zaa (zab 0) (zaa (gC (.int 3)) (zah)))))) (zae (zav (.one 5) (zam 31 c (zaa (zab 0) (zaa (zab 2) (zah))))) (zae (zav (.one 6) (zam 31 c (zaa (zab 0) (zaa (zab 2) (zah))))) (zae (za4 (zas (za8 .lt (zab 3) (gC (.int 3)))) (zae (zar (zbb (zaa (gC (.str "turn")) (zaa (zab 5) (zaa (zam 32 c (zaa (zab 0) (zaa (zab 1) (zah)))) (zaa (zab 4) (zah))))))) (zai)) (zai)) (zae (za4 (zas (za8 .lt (zab 3) (gC (.int 5)))) (zae (zar (zbb (zaa (gC (.str "move")) (zaa (zab 5) (zaa (ziv (zas (za8 .eq (zab 3) (gC (.int 3)))) (zat false .mod (zat false .add (zab 5) (gC (.int 1))) (zab 2)) (zab 6)) (zaa (zab 4) (zah))))))) (zai)) (zai)) (zae (za4 (zas (za8 .eq (zab 3) (gC (.int 5)))) (zae (zar (zbb (zaa (gC (.str "put")) (zaa (zab 5) (zaa (zam 31 c (zaa (zab 0) (zaa (zab 1) (zah)))) (zaa (zab 4) (zah))))))) (zai)) (zai)) (zae (zar (zbb (zaa (gC (.str "join")) (zaa (zab 5) (zaa (zab 6) (zaa (zbg .tuple (zaa (zb3 false 1 (.one 0) (zdl (zab 1)) (zb7 (zam 32 c (zaa (zab 1) (zaa (zab 2) (zah)))))) (zah))) (zaa (zab 4) (zah)))))))) (zai))))))))
def zf7 (c:Call):GS:=zae (zav (.one 1) (zat false .add (gC (.int 2)) (zam 31 c (zaa (zab 0) (zaa (zat false .sub (zab 1) (gC (.int 1))) (zah)))))) (zae (zav (.one 2) (zat false .add (gC (.int 1)) (zam 31 c (zaa (zab 0) (zaa (zab 2) (zah)))))) (zae (zav (.one 4) (zbq true (zah))) (zae (zd3 (.one 5) (zdl (zat false .add (gC (.int 1)) (zam 31 c (zaa (zab 0) (zaa (zab 3) (zah)))))) (zae (zav (.one 6) (zam 31 c (zaa (zab 0) (zaa (gC (.int 5)) (zah))))) (zae (zav (.one 7) (zam 33 c (zaa (zab 0) (zaa (zab 1) (zaa (zab 2) (zah)))))) (zae (za4 (zg3 (zas (za8 .eq (zab 6) (gC (.int 0)))) (zas (za8 .ne (zab 4) (zbq false (zah))))) (zae (zav (.one 7) (zat false .add (zdv false false true (zax (zab 4) (zam 31 c (zaa (zab 0) (zaa (zbg .len (zaa (zab 4) (zah))) (zah))))) (gC .non) (zfu (gC (.int 1)))) (zbb (zaa (zax (zab 7) (zfu (gC (.int 1)))) (zah))))) (zai)) (zai)) (zae (zis (zab 4) (zab 7)) (zai)))))) (zae (zar (zbb (zaa (zab 1) (zaa (zab 2) (zaa (zbg .tuple (zaa (zab 4) (zah))) (zah)))))) (zai)))))
def zmu (c:Call):GS:=zae (zav (.one 3) (zam 31 c (zaa (zab 0) (zaa (gC (.int 4)) (zah))))) (zae (zav (.one 4) (ziv (zas (za8 .eq (zab 3) (gC (.int 0)))) (zab 2) (zam 31 c (zaa (zab 0) (zaa (zat false .add (zab 2) (gC (.int 1))) (zah)))))) (zae (zav (.one 5) (zb3 false 1 (.one 0) (zdl (zab 4)) (zb7 (zam 31 c (zaa (zab 1) (zaa (zbg .len (zaa (zax (zab 2) (gC (.int 2))) (zah))) (zah))))))) (zae (za4 (zas (za8 .eq (zab 3) (gC (.int 1)))) (zae (zav (.one 5) (zdv false false true (zat false .mul (zdv false false true (zab 5) (gC .non) (gC (.int 2))) (zab 4)) (gC .non) (zab 4))) (zai)) (zai)) (zae (zar (zab 5)) (zai)))))
def zrj (c:Call):GS:=zae (zav (.one 3) (zat false .add (zab 1) (zab 2))) (zae (za4 (zas (za8 .ne (zam 19 c (zaa (zab 0) (zaa (zab 3) (zah)))) (zat false .add (zam 19 c (zaa (zab 0) (zaa (zab 1) (zah)))) (zam 19 c (zaa (zab 0) (zaa (zab 2) (zah))))))) (zae (zar (gC (.bl false))) (zai)) (zai)) (zae (zav (.one 4) (zbq true (zah))) (zae (zd3 (.one 5) (zep (zam 15 c (zaa (zab 0) (zah)))) (zae (zav (.one 6) (zam 26 c (zaa (zab 0) (zaa (zbg (.list false) (zaa (zab 1) (zah))) (zaa (zab 5) (zah)))))) (zae (zav (.one 7) (zam 26 c (zaa (zab 0) (zaa (zbg (.list false) (zaa (zab 2) (zah))) (zaa (zax (zab 6) (zfu (gC (.int 1)))) (zah)))))) (zae (zav (.one 8) (zam 26 c (zaa (zab 0) (zaa (zbg (.list false) (zaa (zab 3) (zah))) (zaa (zab 5) (zah)))))) (zae (za4 (tOr (zas (za8 .ne (zab 8) (zat false .add (zab 6) (zdv false true false (zab 7) (gC (.int 1)) (gC .non))))) (tOr (zas (za8 .ne (zbg .len (zaa (zab 8) (zah))) (zat false .add (zbg .len (zaa (zab 3) (zah))) (gC (.int 1))))) (zas (za8 .ne (zax (zab 8) (gC (.int 0))) (zab 5))))) (zae (zar (gC (.bl false))) (zai)) (zai)) (zae (zis (zab 4) (zax (zab 8) (zfu (gC (.int 1))))) (zai))))))) (zae (zar (za8 .eq (zbg .tuple (zaa (zab 4) (zah))) (zam 27 c (zaa (zab 0) (zaa (zab 3) (zah)))))) (zai)))))
def b_law (c:Call):GS:=zae (zav (.one 1) (zam 29 c (zaa (zab 0) (zah)))) (zae (zd3 (.one 2) (zdl (gC (.int 4))) (zae (zav (.one 3) (zam 34 c (zaa (zam 30 c (zaa (zab 1) (zah))) (zaa (gC (.int 4)) (zaa (gC (.int 2)) (zaa (gC (.int 6)) (zah))))))) (zae (zav (.one 4) (zam 35 c (zaa (zab 1) (zaa (zab 3) (zaa (gC (.int 8)) (zah)))))) (zae (zav (.one 5) (zam 35 c (zaa (zab 1) (zaa (zab 3) (zaa (gC (.int 8)) (zah)))))) (zae (zav (.one 6) (zam 31 c (zaa (zab 1) (zaa (zat false .add (zbg .len (zaa (zab 4) (zah))) (gC (.int 1))) (zah))))) (zae (zd3 (.tup [7,8]) (zep (zbq false (zaa (zbb (zaa (zab 4) (zaa (zab 5) (zah)))) (zaa (zbb (zaa (zdv false false true (zab 4) (gC .non) (zab 6)) (zaa (zdv false true false (zab 4) (zab 6) (gC .non)) (zah)))) (zaa (zbb (zaa (zbq false (zah)) (zaa (zab 5) (zah)))) (zaa (zbb (zaa (zab 5) (zaa (zbq false (zah)) (zah)))) (zah))))))) (zae (za4 (zb4 (zas (zam 36 c (zaa (zab 3) (zaa (zab 7) (zaa (zab 8) (zah))))))) (zae (zar (gC (.bl false))) (zai)) (zai)) (zai))) (zai))))))) (zae (zar (gC (.bl true))) (zai)))
def zcx (c:Call):GS:=zae (za4 (zas (za8 .isN (zab 1) (gC .non))) (zae (zar (za8 .isN (zab 0) (gC .non))) (zai)) (zai)) (zae (za4 (tOr (zas (zce .bool (zab 1))) (zas (zce .bool (zab 0)))) (zae (zar (zeq (zce .bool (zab 1)) (zeq (zce .bool (zab 0)) (za8 .eq (zab 0) (zab 1))))) (zai)) (zai)) (zae (za4 (zas (zce .int (zab 1))) (zae (zar (zeq (zce .int (zab 0)) (za8 .eq (zab 0) (zab 1)))) (zai)) (zai)) (zae (za4 (zas (zce .str (zab 1))) (zae (zar (zeq (zce .str (zab 0)) (za8 .eq (zab 0) (zab 1)))) (zai)) (zai)) (zae (za4 (tOr (zas (za8 .ne (zce .tuple (zab 1)) (zce .tuple (zab 0)))) (zas (za8 .ne (zce .list (zab 1)) (zce .list (zab 0))))) (zae (zar (gC (.bl false))) (zai)) (zai)) (zae (za4 (zas (za8 .ne (zbg .len (zaa (zab 0) (zah))) (zbg .len (zaa (zab 1) (zah))))) (zae (zar (gC (.bl false))) (zai)) (zai)) (zae (zar (za8 .notin (gC (.bl false)) (zb3 false 2 (.tup [0,1]) (zkr (zab 0) (zab 1)) (zb7 (zam 40 c (zaa (zab 0) (zaa (zab 1) (zah)))))))) (zai)))))))
def zrk (c:Call):GS:=zae (zav (.one 2) (zbg (.list true) (zaa (zab 1) (zah)))) (zae (zav (.one 3) (zax (zab 1) (zax (zab 0) (gC (.int 1))))) (zae (za4 (zas (za8 .eq (zax (zab 0) (gC (.int 0))) (gC (.str "turn")))) (zae (zft (zab 2) (zax (zab 0) (gC (.int 1))) (zax (zax (zab 0) (gC (.int 2))) (zab 3))) (zai)) (zai)) (zae (za4 (zas (za8 .eq (zax (zab 0) (gC (.int 0))) (gC (.str "join")))) (zae (zft (zab 2) (zax (zab 0) (gC (.int 1))) (zax (zax (zax (zab 0) (gC (.int 3))) (zab 3)) (zax (zab 1) (zax (zab 0) (gC (.int 2)))))) (zai)) (zai)) (zae (za4 (zas (za8 .eq (zax (zab 0) (gC (.int 0))) (gC (.str "move")))) (zae (zft (zab 2) (zax (zab 0) (gC (.int 1))) (zax (zab 1) (zax (zab 0) (gC (.int 2))))) (zai)) (zai)) (zae (za4 (zas (za8 .eq (zax (zab 0) (gC (.int 0))) (gC (.str "put")))) (zae (zft (zab 2) (zax (zab 0) (gC (.int 1))) (zax (zab 0) (gC (.int 2)))) (zai)) (zai)) (zae (zar (zbg .tuple (zaa (zab 2) (zah)))) (zai)))))))
def zd9 (c:Call):GS:=zae (za4 (zas (za8 .eq (zax (zab 0) (gC (.int 1))) (gC (.int 1)))) (zae (zar (zb3 false 1 (.one 0) (zdl (zax (zab 0) (gC (.int 0)))) (zb7 (zbb (zaa (zab 0) (zah)))))) (zai)) (zai)) (zae (zar (zb3 false 1 (.one 0) (zdl (zat false .mul (zax (zab 0) (gC (.int 0))) (zax (zab 0) (gC (.int 0))))) (zb7 (zbb (zaa (zat false .fdiv (zab 0) (zax (zab 1) (gC (.int 0)))) (zaa (zat false .mod (zab 0) (zax (zab 1) (gC (.int 0)))) (zah))))))) (zai))
def zr3 (c:Call):GS:=zae (zav (.one 2) (zbq true (zah))) (zae (zd3 (.one 3) (zep (zam 42 c (zaa (zab 0) (zah)))) (zae (zd3 (.one 4) (zep (zab 1)) (zae (zav (.one 3) (zam 41 c (zaa (zax (zax (zab 0) (gC (.int 2))) (zab 4)) (zaa (zab 3) (zah))))) (zai))) (zae (zis (zab 2) (zab 3)) (zai)))) (zae (zar (zbg .tuple (zaa (zab 2) (zah)))) (zai)))
def zor (c:Call):GS:=zae (zar (zbg .tuple (zaa (zb3 false 1 (.one 0) (zep (zam 15 c (zaa (zab 0) (zah)))) (zb7 (zax (zam 25 c (zaa (zab 1) (zaa (zab 2) (zaa (zab 0) (zah))))) (zfu (gC (.int 1)))))) (zah)))) (zai)
def zo4 (c:Call):GS:=zae (zar (zbg .sum (zaa (zb3 false 1 (.one 0) (zep (zab 1)) (zb7 (zax (zax (zax (zab 1) (gC (.int 2))) (zab 0)) (zfu (gC (.int 1)))))) (zah)))) (zai)
def zy7 (c:Call):GS:=zae (zav (.one 3) (zam 27 c (zaa (zab 0) (zaa (zab 1) (zah))))) (zae (zav (.one 4) (zam 27 c (zaa (zab 0) (zaa (zab 2) (zah))))) (zae (zd3 (.tup [5,6,7]) (zty (zam 15 c (zaa (zab 0) (zah))) (zab 3) (zab 4)) (zae (za4 (zas (za8 .ne (zab 6) (zab 7))) (zae (zar (zab 5)) (zai)) (zai)) (zai))) (zae (zar (gC .non)) (zai))))
def zkh (c:Call):GS:=zae (zav (.one 2) (zat false .add (zb3 false 1 (.one 0) (zdl (gC (.int 9))) (zb7 (zam 35 c (zaa (zab 1) (zaa (zab 2) (zaa (gC (.int 3)) (zah))))))) (zbq false (zaa (zbq false (zah)) (zaa (zbq false (zaa (gC (.int 0)) (zah))) (zah)))))) (zae (zav (.one 3) (zbq true (zaa (zbb (zaa (zax (zab 2) (gC (.int 0))) (zaa (zbg (.list false) (zaa (zax (zab 2) (gC (.int 0))) (zah))) (zah)))) (zah)))) (zae (zd3 (.tup [4,5]) (zhr (zab 2)) (zae (zd3 (.one 6) (zep (zdv false false true (zab 2) (gC .non) (zab 4))) (zae (za4 (zg3 (zas (za8 .ne (zab 5) (zab 6))) (zas (za8 .eq (zam 44 c (zaa (zab 1) (zaa (zab 5) (zah)))) (zam 44 c (zaa (zab 1) (zaa (zab 6) (zah))))))) (zae (zis (zab 3) (zbb (zaa (zab 5) (zaa (zbg (.list false) (zaa (zab 6) (zah))) (zah))))) (zai)) (zai)) (zai))) (zai))) (zae (zar (zab 3)) (zai))))
def zy9 (c:Call):GS:=zae (zae (sEx (zam 18 c (zaa (zab 0) (zaa (zab 1) (zah))))) (zai)) (zae (zar (gC (.bl true))) (zai))
def zwu (c:Call):GS:=zae (za4 (zb4 (zas (zam 4 c (zaa (gC (.int 2)) (zaa (zab 1) (zah)))))) (zae (zar (gC (.bl false))) (zai)) (zai)) (zae (zav (.tup [2,3]) (zab 1)) (zae (zar (zeq (zam 52 c (zaa (zab 0) (zaa (zab 2) (zah)))) (zeq (zam 52 c (zaa (zab 0) (zaa (zab 3) (zah)))) (za8 .isN (zam 48 c (zaa (zab 0) (zaa (zab 2) (zaa (zab 3) (zah))))) (gC .non))))) (zai)))
def zri (c:Call):GS:=zae (sEx (zam 13 c (zaa (zab 0) (zah)))) (zae (zd3 (.tup [2,3]) (zhr (zab 1)) (zae (za4 (zb4 (zas (zam 53 c (zaa (zab 0) (zaa (zab 3) (zah)))))) (zae (zld) (zai)) (zai)) (zai))) (zai))
def zo5 (c:Call):GS:=zae (zav (.tup [3,4,5]) (zab 2)) (zae (za4 (tOr (zb4 (zas (zam 0 c (zaa (zab 3) (zaa (gC (.int 0)) (zaa (zbg .len (zaa (zab 1) (zah))) (zah))))))) (zb4 (zas (zam 0 c (zaa (zab 4) (zaa (gC (.int 0)) (zaa (zat false .sub (zbg .len (zaa (zab 0) (zah))) (gC (.int 1))) (zah)))))))) (zae (zar (gC .non)) (zai)) (zai)) (zae (zav (.tup [6,7]) (zax (zab 0) (zab 4))) (zae (za4 (zas (zab 5)) (zae (sPar 6 7 (zaa (zab 7) (zaa (zab 6) (zah)))) (zai)) (zai)) (zae (zav (.one 8) (zat false .add (zab 3) (zbg .len (zaa (zab 6) (zah))))) (zae (za4 (zas (za8 .ne (zdv false true true (zab 1) (zab 3) (zab 8)) (zab 6))) (zae (zar (gC .non)) (zai)) (zai)) (zae (zav (.one 9) (zat true .add (zat false .add (zdv false false true (zab 1) (gC .non) (zab 3)) (zab 7)) (zdv false true false (zab 1) (zab 8) (gC .non)))) (zae (zar (ziv (zas (za8 .le (zbg .len (zaa (zab 9) (zah))) (gC (.int 40)))) (zab 9) (gC .non))) (zai))))))))
def zwt (c:Call):GS:=zae (sEx (zam 18 c (zaa (zab 0) (zaa (zab 2) (zah))))) (zae (sEx (zam 54 c (zaa (zab 0) (zaa (zab 1) (zah))))) (zae (zav (.one 4) (zbg (.list true) (zaa (zab 2) (zah)))) (zae (zd3 (.tup [5,6]) (zhr (zab 3)) (zae (zav (.one 7) (zam 55 c (zaa (zab 1) (zaa (zab 4) (zaa (zab 6) (zah)))))) (zae (za4 (zas (za8 .isN (zab 7) (gC .non))) (zae (zld) (zai)) (zai)) (zae (zav (.one 4) (zab 7)) (zai))))) (zae (zar (zab 4)) (zai)))))
def zo6 (c:Call):GS:=zae (zar (zb3 false 2 (.tup [0,1]) (zep (zab 0)) (zb7 (zbb (zaa (zbg (.list false) (zaa (zab 0) (zah))) (zaa (zbg (.list false) (zaa (zab 1) (zah))) (zah))))))) (zai)
def zew (c:Call):GS:=zae (zav (.one 2) (gC (.str " !\"#$&'()*+,-./0123456789:;<=>?@ABCDEFGHIJKLMNOPQRSTUVWXYZ[\\]^_`"))) (zae (zav (.one 2) (zat false .add (zab 2) (gC (.str "abcdefghijklmnopqrstuvwxyz{|}~\t\n")))) (zae (zav (.one 3) (zb3 false 1 (.one 0) (zmn (zab 2)) (gIf (zas (za8 .notin (zab 0) (zab 2))) (zb7 (zab 0))))) (zae (zar (zax (zab 3) (zam 31 c (zaa (zab 0) (zaa (zbg .len (zaa (zab 3) (zah))) (zah)))))) (zai))))
def zex (c:Call):GS:=zae (zar (zam 64 c (zaa (zab 0) (zaa (gC (.str "")) (zah))))) (zai)
def zfp (c:Call):GS:=zae (zav (.one 2) (zam 31 c (zaa (zab 0) (zaa (zat false .add (zbg .len (zaa (zab 1) (zah))) (gC (.int 1))) (zah))))) (zae (zar (zat false .add (zat false .add (zks false true (zab 1) (gC .non) (zab 2)) (zam 65 c (zaa (zab 0) (zah)))) (zks true false (zab 1) (zat false .add (zab 2) (zam 31 c (zaa (zab 0) (zaa (gC (.int 2)) (zah))))) (gC .non)))) (zai))
def zgw (c:Call):GS:=zae (zar (zeq (zce .int (zab 0)) (gNot (zce .bool (zab 0))))) (zai)
def zf0 (c:Call):GS:=zae (zar (zeq (zam 67 c (zaa (zab 0) (zah))) (ziw .le .le (zab 1) (zab 0) (zab 2)))) (zai)
def zf6 (c:Call):GS:=zae (za4 (tOr (zb4 (zas (zce .tuple (zab 0)))) (zas (za8 .ne (zbg .len (zaa (zab 0) (zah))) (zab 1)))) (zae (zar (gC (.bl false))) (zai)) (zai)) (zae (zar (za8 .eq (zb3 false 1 (.one 0) (zep (zab 0)) (gIf (zb4 (zas (zam 68 c (zaa (zab 0) (zaa (zab 3) (zaa (zab 4) (zah))))))) (zb7 (gC (.int 1))))) (zbq false (zah)))) (zai))
def zbi (c:Call):GS:=zae (za4 (tOr (zb4 (zas (zce .tuple (zab 0)))) (zas (za8 .notin (zbg .len (zaa (zab 0) (zah))) (zbb (zaa (gC (.int 4)) (zaa (gC (.int 5)) (zah))))))) (zae (zar (gC (.bl false))) (zai)) (zai)) (zae (za4 (tOr (zas (za8 .notin (zax (zab 0) (gC (.int 0))) (zbb (zaa (gC (.str "turn")) (zaa (gC (.str "join")) (zaa (gC (.str "move")) (zaa (gC (.str "put")) (zah)))))))) (zas (za8 .ne (za8 .eq (zbg .len (zaa (zab 0) (zah))) (gC (.int 5))) (za8 .eq (zax (zab 0) (gC (.int 0))) (gC (.str "join")))))) (zae (zar (gC (.bl false))) (zai)) (zai)) (zae (za4 (tOr (zb4 (zas (zam 69 c (zaa (zbb (zaa (zax (zab 0) (gC (.int 1))) (zah))) (zaa (gC (.int 1)) (zaa (gC (.int 0)) (zaa (zat false .sub (zab 2) (gC (.int 1))) (zah)))))))) (zb4 (zas (zam 68 c (zaa (zax (zab 0) (zfu (gC (.int 1)))) (zaa (gC (.int 1)) (zaa (gC (.int 3)) (zah)))))))) (zae (zar (gC (.bl false))) (zai)) (zai)) (zae (za4 (zas (za8 .eq (zax (zab 0) (gC (.int 0))) (gC (.str "turn")))) (zae (zar (zam 69 c (zaa (zax (zab 0) (gC (.int 2))) (zaa (zab 1) (zaa (gC (.int 0)) (zaa (zat false .sub (zab 1) (gC (.int 1))) (zah))))))) (zai)) (zai)) (zae (za4 (zas (za8 .eq (zax (zab 0) (gC (.int 0))) (gC (.str "put")))) (zae (zar (zam 68 c (zaa (zax (zab 0) (gC (.int 2))) (zaa (gC (.int 0)) (zaa (zat false .sub (zab 1) (gC (.int 1))) (zah)))))) (zai)) (zai)) (zae (za4 (zb4 (zas (zam 68 c (zaa (zax (zab 0) (gC (.int 2))) (zaa (gC (.int 0)) (zaa (zat false .sub (zab 2) (gC (.int 1))) (zah))))))) (zae (zar (gC (.bl false))) (zai)) (zai)) (zae (za4 (zas (za8 .eq (zax (zab 0) (gC (.int 0))) (gC (.str "move")))) (zae (zar (gC (.bl true))) (zai)) (zai)) (zae (za4 (tOr (zb4 (zas (zce .tuple (zax (zab 0) (gC (.int 3)))))) (zas (za8 .ne (zbg .len (zaa (zax (zab 0) (gC (.int 3))) (zah))) (zab 1)))) (zae (zar (gC (.bl false))) (zai)) (zai)) (zae (zar (za8 .eq (zb3 false 1 (.one 0) (zep (zax (zab 0) (gC (.int 3)))) (gIf (zb4 (zas (zam 69 c (zaa (zab 0) (zaa (zab 2) (zaa (gC (.int 0)) (zaa (zat false .sub (zab 2) (gC (.int 1))) (zah)))))))) (zb7 (gC (.int 1))))) (zbq false (zah)))) (zai)))))))))
def zee (c:Call):GS:=zae (za4 (tOr (zb4 (zas (zce .tuple (zab 0)))) (tOr (zas (za8 .ne (zbg .len (zaa (zab 0) (zah))) (gC (.int 3)))) (zb4 (zas (zam 68 c (zaa (zax (zab 0) (gC (.int 0))) (zaa (gC (.int 2)) (zaa (gC (.int 4)) (zah))))))))) (zae (zar (gC (.bl false))) (zai)) (zai)) (zae (za4 (tOr (zb4 (zas (zam 68 c (zaa (zax (zab 0) (gC (.int 1))) (zaa (gC (.int 1)) (zaa (gC (.int 2)) (zah))))))) (tOr (zb4 (zas (zce .tuple (zax (zab 0) (gC (.int 2)))))) (zb4 (zas (ziw .le .le (gC (.int 1)) (zbg .len (zaa (zax (zab 0) (gC (.int 2))) (zah))) (gC (.int 6))))))) (zae (zar (gC (.bl false))) (zai)) (zai)) (zae (zar (za8 .eq (zb3 false 1 (.one 0) (zep (zax (zab 0) (gC (.int 2)))) (gIf (zb4 (zas (zam 70 c (zaa (zab 0) (zaa (zax (zab 1) (gC (.int 0))) (zaa (zax (zab 1) (gC (.int 1))) (zah))))))) (zb7 (gC (.int 1))))) (zbq false (zah)))) (zai)))
def ziy (c:Call):GS:=zae (zav (.one 3) (zam 31 c (zaa (zab 0) (zaa (gC (.int 8)) (zah))))) (zae (zav (.one 4) (zam 31 c (zaa (zab 0) (zaa (gC (.int 20)) (zah))))) (zae (zav (.one 5) (zat false .sub (zam 31 c (zaa (zab 0) (zaa (gC (.int 9)) (zah)))) (gC (.int 2)))) (zae (za4 (zg3 (zas (zce .tuple (zab 1))) (zg3 (zas (za8 .ne (zab 1) (zbb (zah)))) (zg3 (zas (za8 .gt (zab 2) (gC (.int 0)))) (zas (za8 .gt (zab 4) (gC (.int 4))))))) (zae (zav (.one 6) (zam 31 c (zaa (zab 0) (zaa (zbg .len (zaa (zab 1) (zah))) (zah))))) (zae (zar (zat false .add (zat false .add (zdv false false true (zab 1) (gC .non) (zab 6)) (zbb (zaa (zam 72 c (zaa (zab 0) (zaa (zax (zab 1) (zab 6)) (zaa (zat false .sub (zab 2) (gC (.int 1))) (zah))))) (zah)))) (zdv false true false (zab 1) (zat false .add (zab 6) (gC (.int 1))) (gC .non)))) (zai))) (zai)) (zae (zav (.one 7) (zbq false (zaa (gC .non) (zaa (gC (.bl true)) (zaa (gC (.bl false)) (zaa (gC (.str "")) (zaa (gC (.str "turn")) (zaa (gC (.str "join")) (zaa (gC (.str "move")) (zaa (gC (.str "put")) (zaa (gC (.str "Turn")) (zaa (zbb (zah)) (zaa (zbq false (zah)) (zaa (zat false .pow (gC (.int 10)) (gC (.int 20))) (zaa (zfu (gC (.int 1))) (zaa (gC (.int 0)) (zah))))))))))))))))) (zae (zav (.one 7) (zat false .add (zab 7) (zbq false (zaa (gC (.int 1)) (zaa (gC (.int 4)) (zaa (zbb (zaa (gC (.int 0)) (zah))) (zaa (zbq false (zaa (gC (.int 0)) (zah))) (zaa (gC (.str "0")) (zaa (gC (.int 7)) (zah)))))))))) (zae (za4 (zas (zce .tuple (zab 1))) (zae (zav (.one 8) (zbq false (zaa (zbg (.list false) (zaa (zab 1) (zah))) (zaa (zat false .add (zab 1) (zdv false false true (zab 1) (gC .non) (gC (.int 1)))) (zaa (zdv false false true (zab 1) (gC .non) (zfu (gC (.int 1)))) (zaa (gRev false (zab 1)) (zaa (zat false .add (zab 1) (zbb (zaa (zab 5) (zah)))) (zaa (zdv false true false (zab 1) (gC (.int 1)) (gC .non)) (zaa (zbb (zaa (zab 1) (zah))) (zah)))))))))) (zae (zar (zax (zat false .add (zab 8) (zbq false (zaa (zax (zab 7) (zab 4)) (zah)))) (zab 3))) (zai))) (zai)) (zae (za4 (zas (zam 67 c (zaa (zab 1) (zah)))) (zae (zar (zax (zbq false (zaa (zat false .add (zab 1) (gC (.int 1))) (zaa (zat false .sub (zab 1) (gC (.int 1))) (zaa (zat false .sub (gC (.int 0)) (zab 1)) (zaa (zab 5) (zaa (zab 5) (zaa (za8 .eq (zab 1) (gC (.int 1))) (zaa (zat false .sub (gC (.int 3)) (zab 1)) (zaa (zax (zab 7) (zab 4)) (zah)))))))))) (zab 3))) (zai)) (zai)) (zae (za4 (zg3 (zas (zce .str (zab 1))) (zas (za8 .lt (zab 3) (gC (.int 3))))) (zae (zar (zam 66 c (zaa (zab 0) (zaa (zab 1) (zah))))) (zai)) (zai)) (zae (zar (zax (zab 7) (zab 4))) (zai))))))))))
def z2j (c:Call):GS:=zae (zav (.one 1) (zam 29 c (zaa (zab 0) (zah)))) (zae (zd3 (.one 2) (zdl (gC (.int 6))) (zae (zav (.one 3) (zam 34 c (zaa (zam 30 c (zaa (zab 1) (zah))) (zaa (gC (.int 4)) (zaa (gC (.int 2)) (zaa (gC (.int 6)) (zah))))))) (zae (za4 (zas (ztz (zam 12 c (zaa (zab 3) (zah))) (gC (.bl true)))) (zae (zar (gC (.bl false))) (zai)) (zai)) (zae (zd3 (.one 4) (zdl (gC (.int 5))) (zae (zav (.one 5) (zam 72 c (zaa (zab 1) (zaa (zab 3) (zaa (gC (.int 5)) (zah)))))) (zae (za4 (zas (za8 .gt (zab 4) (gC (.int 2)))) (zae (zav (.one 5) (zam 72 c (zaa (zab 1) (zaa (zab 5) (zaa (gC (.int 5)) (zah)))))) (zai)) (zai)) (zae (za4 (zb4 (zas (zam 40 c (zaa (zam 12 c (zaa (zab 5) (zah))) (zaa (zam 71 c (zaa (zab 5) (zah))) (zah)))))) (zae (zar (gC (.bl false))) (zai)) (zai)) (zai))))) (zai))))) (zae (zav (.one 6) (zbb (zaa (gC (.str "put")) (zaa (gC (.int 0)) (zaa (gC (.int 0)) (zaa (gC (.int 1)) (zah))))))) (zae (zav (.one 7) (zbq false (zaa (gC .non) (zaa (gC (.int 7)) (zaa (gC (.str "2 1")) (zaa (zbb (zah)) (zaa (zbq false (zah)) (zaa (zbb (zaa (gC (.int 2)) (zaa (gC (.int 1)) (zaa (zbb (zah)) (zah))))) (zaa (zbb (zaa (gC (.int 2)) (zaa (gC (.int 1)) (zaa (zat false .mul (zbb (zaa (zab 6) (zah))) (gC (.int 6))) (zah))))) (zaa (zbb (zaa (gC (.int 2)) (zaa (gC (.int 1)) (zaa (zat false .mul (zbb (zaa (zab 6) (zah))) (gC (.int 7))) (zah))))) (zaa (zbb (zaa (gC (.int 5)) (zaa (gC (.int 1)) (zaa (zbb (zaa (zab 6) (zah))) (zah))))) (zah)))))))))))) (zae (zav (.one 7) (zat false .add (zab 7) (zbq false (zaa (zbb (zaa (gC (.int 1)) (zaa (gC (.int 1)) (zaa (zbb (zaa (zab 6) (zah))) (zah))))) (zaa (zbb (zaa (gC (.int 2)) (zaa (gC (.int 3)) (zaa (zbb (zaa (zab 6) (zah))) (zah))))) (zaa (zbb (zaa (gC (.int 2)) (zaa (gC (.int 0)) (zaa (zbb (zaa (zab 6) (zah))) (zah))))) (zaa (zbb (zaa (gC (.bl true)) (zaa (gC (.int 1)) (zaa (zbb (zaa (zab 6) (zah))) (zah))))) (zaa (zbb (zaa (gC (.int 2)) (zaa (gC (.int 1)) (zaa (zbq false (zaa (zab 6) (zah))) (zah))))) (zah))))))))) (zae (zd3 (.one 5) (zep (zat false .add (zab 7) (zbq false (zaa (zbb (zaa (gC (.int 2)) (zaa (gC (.int 1)) (zaa (zab 6) (zah))))) (zah))))) (zae (za4 (zb4 (zas (zam 40 c (zaa (zam 12 c (zaa (zab 5) (zah))) (zaa (zam 71 c (zaa (zab 5) (zah))) (zah)))))) (zae (zar (gC (.bl false))) (zai)) (zai)) (zai))) (zae (zar (gC (.bl true))) (zai)))))))
def zcr (c:Call):GS:=zae (sExX (zig 13 c (zaa (zab 0) (zah)))) (zae (zav (.tup [1,2,3]) (zab 0)) (zae (zav (.one 4) (zbq true (zaa (zbb (zah)) (zah)))) (zae (zd3 (.one 5) (zdl (zab 2)) (zae (zav (.one 4) (zb3 true 2 (.one 0) (zep (zab 4)) (zli (.one 1) (zdl (zab 3)) (zb7 (zat false .add (zab 0) (zbb (zaa (zab 1) (zah)))))))) (zai))) (zae (zar (zab 4)) (zai)))))
def zdx (c:Call):GS:=zae (zav (.one 1) (zbq false (zaa (zcp (some 0) (zab 0)) (zaa (zcp (some 1) (zab 0)) (zaa (zcp (some 2) (zab 0)) (zah)))))) (zae (zav (.one 1) (zat false .add (zab 1) (zbq false (zaa (zcp (some 3) (zab 0)) (zaa (zcp (some 4) (zab 0)) (zaa (zcp (some 5) (zab 0)) (zah))))))) (zae (zav (.one 1) (zat false .add (zab 1) (zbq false (zaa (zcp (some 6) (zab 0)) (zaa (zcp (some 7) (zab 0)) (zaa (zcp (some 8) (zab 0)) (zah))))))) (zae (zav (.one 1) (zat false .add (zab 1) (zbq false (zaa (zcp (some 9) (zab 0)) (zaa (zcp (some 10) (zab 0)) (zaa (zcp (some 11) (zab 0)) (zah))))))) (zae (zav (.one 1) (zat false .add (zab 1) (zbq false (zaa (zcp (some 12) (zab 0)) (zaa (zcp (some 13) (zab 0)) (zah)))))) (zae (za4 (tOr (zas (za8 .ne (zt1 (zab 1)) (gC (.int 1)))) (tOr (zb4 (zas (zcp none (zab 0)))) (zb4 (zas (zcp none (zab 0)))))) (zae (zar (zbq false (zaa (gC (.str "odd")) (zah)))) (zai)) (zai)) (zae (za4 (zas (zax (zab 1) (gC (.int 0)))) (zae (zar (zbq false (zaa (gC (.str "row")) (zaa (gBad) (zah))))) (zai)) (zai)) (zae (za4 (zas (zax (zab 1) (gC (.int 1)))) (zae (zar (zbq false (zaa (gC (.str "rule")) (zaa (gBad) (zah))))) (zai)) (zai)) (zae (za4 (zas (zax (zab 1) (gC (.int 2)))) (zae (zar (zbq false (zaa (gC (.str "step")) (zaa (gBad) (zah))))) (zai)) (zai)) (zae (zav (.one 2) (zbq false (zaa (gC (.str "machine")) (zaa (gC (.str "long")) (zaa (gC (.str "word")) (zaa (gC (.str "work")) (zaa (gC (.str "bound")) (zaa (gC (.str "many")) (zaa (gC (.str "place")) (zaa (gC (.str "deed")) (zaa (gC (.str "nothing")) (zaa (gC (.str "text")) (zaa (gC (.str "line")) (zah)))))))))))))) (zae (zar (zbq false (zaa (zax (zab 2) (zat false .sub (zt0 (zab 1)) (gC (.int 3)))) (zah)))) (zai)))))))))))
def ze2 (c:Call):GS:=zae (zav (.one 1) (gC .non)) (zae (zav (.one 2) (gC .non)) (zae (sTry (zae (zko (.one 2) (zig 74 c (zaa (zab 0) (zah)))) (zai)) 3 (zae (zav (.one 1) (zab 3)) (zai))) (zae (zar (ziv (zas (za8 .isN (zab 1) (gC .non))) (zab 2) (zbg .tuple (zaa (zam 75 c (zaa (zab 1) (zah))) (zah))))) (zai))))
def zkz (c:Call):GS:=zae (zav (.one 1) (zam 29 c (zaa (zab 0) (zah)))) (zae (zd3 (.one 2) (zdl (gC (.int 5))) (zae (zav (.one 3) (zam 34 c (zaa (zam 30 c (zaa (zab 1) (zah))) (zaa (gC (.int 4)) (zaa (gC (.int 2)) (zaa (gC (.int 3)) (zah))))))) (zae (zd3 (.one 4) (zdl (gC (.int 2))) (zae (zav (.one 5) (zam 76 c (zaa (zab 3) (zah)))) (zae (za4 (zb4 (zas (zam 40 c (zaa (zab 5) (zaa (zam 42 c (zaa (zab 3) (zah))) (zah)))))) (zae (zar (gC (.bl false))) (zai)) (zai)) (zae (zis (zab 5) (zbb (zaa (gC (.int 0)) (zah)))) (zai))))) (zae (zd3 (.one 6) (zdl (gC (.int 3))) (zae (zav (.one 7) (zam 72 c (zaa (zab 1) (zaa (zab 3) (zaa (gC (.int 5)) (zah)))))) (zae (zav (.one 8) (ziv (zas (zam 71 c (zaa (zab 7) (zah)))) (zam 42 c (zaa (zab 7) (zah))) (zbb (zaa (gC (.str "machine")) (zah))))) (zae (za4 (zb4 (zas (zam 40 c (zaa (zam 76 c (zaa (zab 7) (zah))) (zaa (zab 8) (zah)))))) (zae (zar (gC (.bl false))) (zai)) (zai)) (zai))))) (zai))))) (zae (zar (zam 40 c (zaa (zam 74 c (zaa (zbb (zaa (gC (.int 2)) (zaa (gC (.int 2)) (zaa (zbb (zaa (zbb (zaa (gC (.str "put")) (zaa (gC (.int 0)) (zaa (gC (.int 1)) (zaa (gC (.int 1)) (zah)))))) (zah))) (zah))))) (zah))) (zaa (zbq false (zaa (zbb (zaa (gC (.int 0)) (zaa (gC (.int 0)) (zah)))) (zaa (zbb (zaa (gC (.int 0)) (zaa (gC (.int 1)) (zah)))) (zaa (zbb (zaa (gC (.int 1)) (zaa (gC (.int 0)) (zah)))) (zaa (zbb (zaa (gC (.int 1)) (zaa (gC (.int 1)) (zah)))) (zah)))))) (zah))))) (zai)))
end LD
namespace LD
open PySem
theorem okE.mono {α:Type}{r:Res α}{k k':α->Mem->Prop} (h:okE r k) (m:∀ a M,k a M->k' a M):okE r k':=zbu h m
@[simp] theorem zbk {α β:Type}{r:Res α}{f:α->Mem->Res β}{k:β->Mem->Prop}:okE (r.bind f) k↔okE r fun a M=>okE (f a M) k:=by cases r<;>rfl
@[simp] theorem ztk {α:Type}{a:α}{M:Mem}{k:α->Mem->Prop}:okE (.ok a M) k↔k a M:=Iff.rfl
@[simp] theorem ok_bad {α:Type}{k:α->Mem->Prop}:okE (.bad:Res α) k↔False:=Iff.rfl
@[simp] theorem zi8 {α:Type}{M:Mem}{o:Option α}{k:α->Mem->Prop}:okE (ofO M o) k↔∃ a,o=some a /\ k a M:=by cases o<;>simp [ofO]
theorem ztl {α:Type}{r:Res α}{k:α->Mem->Prop}:okE r k↔∃ a M,r=.ok a M /\ k a M:=by
  cases r with
  | ok a M=>exact ⟨fun h=>⟨a,M,rfl,h⟩,fun ⟨_,_,e,h⟩=>by cases e;exact h⟩
  | err=>simp [okE]
  | bad=>simp [okE]
theorem znu {x y:D}{M:Mem}{v:Bool} (px:zaw 64 (view M x)=true) (py:zaw 64 (view M y)=true) (h:zbp (view M x) (view M y)=v):zb1 .eq x y M=some v:=by
  have e:eqD (view M x) (view M y)=some v:=by unfold eqD;rw [px,py,h];rfl
  show eqM M x y=_
  unfold eqM;rw [e]
theorem zsv {x y:D}{M:Mem}{v:Bool} (px:zaw 64 (view M x)=true) (py:zaw 64 (view M y)=true) (h:zbp (view M x) (view M y)=v):zb1 .ne x y M=some (!v):=by
  show (zb1 .eq x y M).map (!·)=_
  rw [znu px py h];rfl
section
variable {ρ:Env}{M:Mem}{a b d lo hi:GE}{s:GA}{t u:GT}{k:D->Mem->Prop}{c:Call}
@[simp] theorem zct {i:Nat}:okE (zab i ρ M) k↔∃ d,ρ[i]?.getD none=some d /\ k d M:=by simp [zab]
@[simp] theorem e_c {d:D}:okE (gC d ρ M) k↔k d M:=Iff.rfl
@[simp] theorem zim {m:Bool}{o:Bin}:okE (zat m o a b ρ M) k↔okE (a ρ M) fun x M=>okE (b ρ M) fun y M=>okE (zfj m o x y M) k:=by simp [zat]
@[simp] theorem zpi {o:Cmp}:okE (za8 o a b ρ M) k↔okE (a ρ M) fun x M=>okE (b ρ M) fun y M=>∃ v,zb1 o x y M=some v /\ k (.bl v) M:=by simp [za8]
@[simp] theorem e_chn {o o':Cmp}:okE (ziw o o' a b d ρ M) k↔okE (a ρ M) fun x M=>okE (b ρ M) fun y M=>∃ v,zb1 o x y M=some v /\ if v=true then okE (d ρ M) fun z M=>∃ v,zb1 o' y z M=some v /\ k (.bl v) M else k (.bl false) M:=by
  simp only [ziw,zbk,zi8]
  refine iff_of_eq ?_
  congr 1;funext x M;congr 1;funext y M;refine propext (exists_congr fun v=>and_congr_right fun _=>?_)
  cases v<;>simp
@[simp] theorem e_neg:okE (zfu a ρ M) k↔okE (a ρ M) fun x M=>∃ i,x=.int i /\ k (.int (-i)) M:=by
  simp only [zfu,zbk];refine iff_of_eq ?_;congr 1;funext x M;cases x<;>simp
@[simp] theorem e_and:okE (zeq a b ρ M) k↔okE (a ρ M) fun x M=>∃ v,x=.bl v /\ if v=true then okE (b ρ M) k else k (.bl false) M:=by
  simp only [zeq,zbk];refine iff_of_eq ?_;congr 1;funext x M;cases x<;>simp
  rename_i v;cases v<;>simp
@[simp] theorem e_or:okE (gOr a b ρ M) k↔okE (a ρ M) fun x M=>∃ v,x=.bl v /\ if v=true then k (.bl true) M else okE (b ρ M) k:=by
  simp only [gOr,zbk];refine iff_of_eq ?_;congr 1;funext x M;cases x<;>simp
  rename_i v;cases v<;>simp
@[simp] theorem e_not:okE (gNot a ρ M) k↔okE (a ρ M) fun x M=>∃ v,x=.bl v /\ k (.bl (!v)) M:=by
  simp only [gNot,zbk];refine iff_of_eq ?_;congr 1;funext x M;cases x<;>simp
@[simp] theorem e_ite:okE (ziv t a b ρ M) k↔okE (t ρ M) fun v M=>if v=true then okE (a ρ M) k else okE (b ρ M) k:=by
  simp only [ziv,zbk];refine iff_of_eq ?_;congr 1;funext v M;cases v<;>simp
@[simp] theorem zmq:okE (zax a b ρ M) k↔okE (a ρ M) fun x M=>okE (b ρ M) fun y M=>∃ d,zg5 x y M=some d /\ k d M:=by simp [zax]
@[simp] theorem e_slc {m hl hh:Bool}:okE (zdv m hl hh a lo hi ρ M) k↔okE (a ρ M) fun x M=>okE (lo ρ M) fun l M=>okE (hi ρ M) fun h M=>zc7 hl l=true /\ zc7 hh h=true /\ okE (zg4 m x l h M) k:=by
  simp only [zdv,zbk]
  refine iff_of_eq ?_
  congr 1;funext x M;congr 1;funext l M;congr 1;funext h M
  cases zc7 hl l<;>cases zc7 hh h<;>simp
@[simp] theorem zc1 {k:List D->Mem->Prop}:okE (zah ρ M) k↔k [] M:=Iff.rfl
@[simp] theorem zcm {k:List D->Mem->Prop}:okE (zaa a s ρ M) k↔okE (a ρ M) fun x M=>okE (s ρ M) fun xs M=>k (x::xs) M:=by simp [zaa]
@[simp] theorem zt6:okE (zbb s ρ M) k↔okE (s ρ M) fun xs M=>xs.length≤sz /\ k (.tup xs) M:=by
  simp only [zbb,zbk];refine iff_of_eq ?_;congr 1;funext xs M;unfold zjk;split<;>simp [*]
theorem zqo {m:Bool}{xs:List D}:okE (zb5 m xs M) k↔xs.length≤sz /\ if m=true then k (.cell M.length) (M++[xs]) else k (.lst xs) M:=by
  unfold zb5;cases m<;>split<;>simp [*]
@[simp] theorem zfr {xs:List D}:okE (zb5 false xs M) k↔xs.length≤sz /\ k (.lst xs) M:=by simp [zqo]
@[simp] theorem z1h {xs:List D}:okE (zb5 true xs M) k↔xs.length≤sz /\ k (.cell M.length) (M++[xs]):=by simp [zqo]
@[simp] theorem zph {m:Bool}:okE (zbq m s ρ M) k↔okE (s ρ M) fun xs M=>okE (zb5 m xs M) k:=by simp [zbq]
@[simp] theorem zdr {f:Nat}:okE (zam f c s ρ M) k↔okE (s ρ M) fun ds M=>okE (c f ds M) k:=by simp [zam]
@[simp] theorem e_callv {i:Nat}:okE (zjb i c s ρ M) k↔∃ f,ρ[i]?.getD none=some (.fn f) /\ okE (s ρ M) fun ds M=>okE (c f ds M) k:=by
  unfold zjb
  cases e:ρ[i]?.getD none with
  | none=>simp
  | some d=>cases d<;>simp
@[simp] theorem zjp {f:Blt}:okE (zbg f s ρ M) k↔okE (s ρ M) fun ds M=>okE (ze5 f ds M) k:=by simp [zbg]
@[simp] theorem zq6 {t:Ty}:okE (zce t a ρ M) k↔okE (a ρ M) fun x M=>∃ v,zcj t x=some v /\ k (.bl v) M:=by simp [zce]
@[simp] theorem e_dget {fs:List (Str×Nat)}:okE (zjo fs a ρ M) k↔okE (a ρ M) fun x M=>∃ y f,x=.str y /\ fs.lookup y=some f /\ k (.fn f) M:=by
  simp only [zjo,zbk];refine iff_of_eq ?_;congr 1;funext x M;cases x<;>simp
  exact ⟨fun ⟨_,⟨f,h,e⟩,q⟩=>⟨f,h,e ▸ q⟩,fun ⟨f,h,q⟩=>⟨_,⟨f,h,rfl⟩,q⟩⟩
@[simp] theorem e_dnot {fs:List (Str×Nat)}:okE (zjn fs a ρ M) k↔okE (a ρ M) fun x M=>∃ y,x=.str y /\ k (.bl (!(fs.lookup y).isSome)) M:=by
  simp only [zjn,zbk];refine iff_of_eq ?_;congr 1;funext x M;cases x<;>simp
@[simp] theorem e_listR {m:Bool}:okE (zj9 m a ρ M) k↔okE (a ρ M) fun x M=>∃ n,x=.int n /\ (-(2 ^ 62)≤n /\ n < 2 ^ 20) /\ okE (zb5 m ((List.range n.toNat).map fun (k:Nat)=>D.int (k:Int)) M) k:=by
  simp only [zj9,zbk];refine iff_of_eq ?_;congr 1;funext x M
  cases x<;>simp
  rename_i n
  split<;>simp [*]
variable {kb:Bool->Mem->Prop}
@[simp] theorem zs0:okE (zas a ρ M) kb↔okE (a ρ M) fun x M=>∃ v,zir M x=some v /\ kb v M:=by simp [zas]
@[simp] theorem t_and:okE (zg3 t u ρ M) kb↔okE (t ρ M) fun v M=>if v=true then okE (u ρ M) kb else kb false M:=by
  simp only [zg3,zbk];refine iff_of_eq ?_;congr 1;funext v M;cases v<;>simp
@[simp] theorem t_or:okE (tOr t u ρ M) kb↔okE (t ρ M) fun v M=>if v=true then kb true M else okE (u ρ M) kb:=by
  simp only [tOr,zbk];refine iff_of_eq ?_;congr 1;funext v M;cases v<;>simp
@[simp] theorem t_not:okE (zb4 t ρ M) kb↔okE (t ρ M) fun v M=>kb (!v) M:=by simp [zb4]
variable {kf:Fl->Mem->Prop}{sa sb:GS}
def zkm (b:GS) (k:Fl->Mem->Prop):Fl->Mem->Prop
  | .next ρ,M=>okE (b ρ M) k
  | .ret d,M=>k (.ret d) M
  | .exc x ρ,M=>k (.exc x ρ) M
@[simp] theorem then_exc {b:GS}{x:D}:zkm b kf (.exc x ρ) M↔kf (.exc x ρ) M:=Iff.rfl
@[simp] theorem zcq {b:GS}:zkm b kf (.next ρ) M↔okE (b ρ M) kf:=Iff.rfl
@[simp] theorem zps {b:GS}{d:D}:zkm b kf (.ret d) M↔kf (.ret d) M:=Iff.rfl
@[simp] theorem zbn:okE (zae sa sb ρ M) kf↔okE (sa ρ M) (zkm sb kf):=by
  simp only [zae,zbk];refine iff_of_eq ?_;congr 1;funext fl M;cases fl<;>rfl
@[simp] theorem zh9:okE (zai ρ M) kf↔kf (.next ρ) M:=Iff.rfl
@[simp] theorem zec {i:Nat}:okE (zav (.one i) a ρ M) kf↔okE (a ρ M) fun x M=>kf (.next (ρ.set i (some x))) M:=by simp [zav,zde]
@[simp] theorem s_asgt {l:List Nat}:okE (zav (.tup l) a ρ M) kf↔okE (a ρ M) fun x M=>∃ ds ρ1,x=.tup ds /\ zfw l ds ρ=some ρ1 /\ kf (.next ρ1) M:=by
  simp only [zav,zbk,zi8,ztk];refine iff_of_eq ?_;congr 1;funext x M;cases x<;>simp [zde]
@[simp] theorem s_put_:okE (zft a b d ρ M) kf↔okE (d ρ M) fun z M=>okE (a ρ M) fun x M=>okE (b ρ M) fun y M=>∃ j n ds i,x=.cell j /\ y=.int n /\ M[j]?=some ds /\ ixN ds.length n=some i /\ kf (.next ρ) (M.set j (ds.set i z)):=by
  simp only [zft,zbk]
  refine iff_of_eq ?_
  congr 1;funext z M;congr 1;funext x M;congr 1;funext y M
  cases x with
  | cell j =>
    cases y with
    | int n =>
      cases e:M[j]? with
      | none=>simp [e]
      | some ds =>
        cases e2:ixN ds.length n with
        | none=>simp [e,e2]
        | some i=>simp [e,e2]
    | _=>simp
  | _=>simp
@[simp] theorem s_app_:okE (zis a d ρ M) kf↔okE (a ρ M) fun x M=>okE (d ρ M) fun z M=>∃ j ds,x=.cell j /\ M[j]?=some ds /\ ds.length < sz /\ kf (.next ρ) (M.set j (ds++[z])):=by
  simp only [zis,zbk]
  refine iff_of_eq ?_
  congr 1;funext x M;congr 1;funext z M
  cases x<;>simp
  rename_i j
  cases e:M[j]? with
  | none=>simp
  | some ds=>by_cases h:ds.length < sz<;>simp [h]
@[simp] theorem s_ex_:okE (sEx a ρ M) kf↔okE (a ρ M) fun _ M=>kf (.next ρ) M:=by simp [sEx]
@[simp] theorem zd2:okE (zar a ρ M) kf↔okE (a ρ M) fun x M=>kf (.ret x) M:=by simp [zar]
@[simp] theorem s_retN_:okE (sRetN ρ M) kf↔kf (.ret .non) M:=Iff.rfl
@[simp] theorem s_pass_:okE (sPass ρ M) kf↔kf (.next ρ) M:=Iff.rfl
@[simp] theorem s_bad_:okE (zld ρ M) kf↔False:=Iff.rfl
@[simp] theorem zi5:okE (za4 t sa sb ρ M) kf↔okE (t ρ M) fun v M=>if v=true then okE (sa ρ M) kf else okE (sb ρ M) kf:=by
  simp only [za4,zbk];refine iff_of_eq ?_;congr 1;funext v M;cases v<;>simp
variable {kw:Walk->Mem->Prop}
@[simp] theorem zpo:okE (zdl a ρ M) kw↔okE (a ρ M) fun x M=>∃ n,x=.int n /\ (-(2 ^ 62)≤n /\ n < 2 ^ 62) /\ kw (fun _=>some ((List.range n.toNat).map fun (k:Nat)=>D.int (k:Int))) M:=by
  simp only [zdl,zbk];refine iff_of_eq ?_;congr 1;funext x M;cases x<;>simp
  rename_i n
  split<;>simp [*]
@[simp] theorem w_seq:okE (zep a ρ M) kw↔okE (a ρ M) fun x M=>zeh x=true /\ kw (fun M=>zcn M x) M:=by
  simp only [zep,zbk];refine iff_of_eq ?_;congr 1;funext x M;cases x<;>simp [zeh]<;>rfl
@[simp] theorem w_enum:okE (zhr a ρ M) kw↔okE (a ρ M) fun x M=>(zeh x&&zha x)=true /\ kw (fun M=>(zcn M x).map (zfh 0)) M:=by
  simp only [zhr,zbk];refine iff_of_eq ?_;congr 1;funext x M;cases x<;>simp [zeh,zha]<;>rfl
@[simp] theorem w_zip2:okE (zkr a b ρ M) kw↔okE (a ρ M) fun x M=>okE (b ρ M) fun y M=>(zeh x&&zeh y)=true /\ kw (zkl x y) M:=by
  simp only [zkr,zbk];refine iff_of_eq ?_;congr 1;funext x M;congr 1;funext y M;split<;>simp [*]
def zhn (k:D->Mem->Prop):Fl->Mem->Prop
  | .ret d,M=>k d M
  | .next _,M=>k .non M
  | .exc _ _,_=>False
@[simp] theorem fin_ret {d:D}:zhn k (.ret d) M↔k d M:=Iff.rfl
@[simp] theorem fin_next:zhn k (.next ρ) M↔k .non M:=Iff.rfl
theorem za2 {P:Nat->Option Df}{n f:Nat}{d:Df}{ds:List D} (e:P f=some d) (hl:ds.length=d.params) (h:okE (d.body (zaq P n) (ds.map some++List.replicate (d.slots - ds.length) none) M) (zhn k)):okE (zaq P (n+1) f ds M) k:=by
  show okE (match P f with | none=>Res.bad | some d=>zgg (zaq P n) d ds M) k
  rw [e]
  show okE (zgg (zaq P n) d ds M) k
  unfold zgg
  rw [if_pos hl]
  revert h
  cases d.body (zaq P n) (ds.map some++List.replicate (d.slots - ds.length) none) M with
  | ok fl M=>cases fl<;>exact id
  | err=>exact id
  | bad=>exact id
@[simp] theorem okX_ok {α:Type}{a:α}{k:α->Mem->Prop}{kx:D->Mem->Prop}:okX (.ok a M) k kx↔k a M:=Iff.rfl
@[simp] theorem okX_err {α:Type}{x:D}{k:α->Mem->Prop}{kx:D->Mem->Prop}:okX (.err x M:Res α) k kx↔kx x M:=Iff.rfl
def finX (k kx:D->Mem->Prop):Fl->Mem->Prop
  | .ret d,M=>k d M
  | .next _,M=>k .non M
  | .exc x _,M=>kx x M
theorem zrb {P:Nat->Option Df}{n f:Nat}{d:Df}{ds:List D}{kx:D->Mem->Prop} (e:P f=some d) (hl:ds.length=d.params) (h:okE (d.body (zaq P n) (ds.map some++List.replicate (d.slots - ds.length) none) M) (finX k kx)):okX (zaq P (n+1) f ds M) k kx:=by
  show okX (match P f with | none=>Res.bad | some d=>zgg (zaq P n) d ds M) k kx
  rw [e]
  show okX (zgg (zaq P n) d ds M) k kx
  unfold zgg
  rw [if_pos hl]
  revert h
  cases d.body (zaq P n) (ds.map some++List.replicate (d.slots - ds.length) none) M with
  | ok fl M=>cases fl<;>exact id
  | err=>exact id
  | bad=>exact id
theorem zoe {α:Type}{r:Res α}{x:D}{M':Mem} (h:okX r (fun _ _=>False) fun y M=>y=x /\ M=M'):r=.err x M':=by
  cases r with
  | ok=>exact h.elim
  | err y M=>obtain ⟨rfl,rfl⟩:=h;rfl
  | bad=>exact h.elim
@[simp] theorem fx_ret {d:D}{kx:D->Mem->Prop}:finX k kx (.ret d) M↔k d M:=Iff.rfl
@[simp] theorem fx_next {kx:D->Mem->Prop}:finX k kx (.next ρ) M↔k .non M:=Iff.rfl
@[simp] theorem fx_exc {x:D}{kx:D->Mem->Prop}:finX k kx (.exc x ρ) M↔kx x M:=Iff.rfl
@[simp] theorem zz6 {f:Nat}{kx:D->Mem->Prop}:okX (zig f c s ρ M) k kx↔okE (s ρ M) fun ds M=>okX (c f ds M) k kx:=by
  unfold zig
  cases s ρ M<;>rfl
@[simp] theorem s_exX_:okE (sExX a ρ M) kf↔okX (a ρ M) (fun _ M=>kf (.next ρ) M) (fun x M=>kf (.exc x ρ) M):=by
  unfold sExX
  cases a ρ M<;>rfl
@[simp] theorem z0m {i:Nat}:okE (zko (.one i) a ρ M) kf↔okX (a ρ M) (fun x M=>kf (.next (ρ.set i (some x))) M) (fun x M=>kf (.exc x ρ) M):=by
  unfold zko
  cases a ρ M<;>rfl
@[simp] theorem s_retX_:okE (sRetX a ρ M) kf↔okX (a ρ M) (fun x M=>kf (.ret x) M) (fun x M=>kf (.exc x ρ) M):=by
  unfold sRetX
  cases a ρ M<;>rfl
@[simp] theorem s_raise_ {i:Nat}:okE (zi6 i s ρ M) kf↔okE (s ρ M) fun ds M=>ds.length≤sz /\ kf (.exc (.exc i none) ρ) M:=by
  unfold zi6
  cases s ρ M with
  | ok ds M1=>by_cases h:ds.length≤sz<;>simp [h]
  | err=>exact Iff.rfl
  | bad=>exact Iff.rfl
def endK (i:Nat) (kf:Fl->Mem->Prop):Fl->Mem->Prop
  | .next ρ,M=>kf (.next (ρ.set i none)) M
  | .ret d,M=>kf (.ret d) M
  | .exc _ _,_=>False
def tryK (i:Nat) (h:GS) (kf:Fl->Mem->Prop):Fl->Mem->Prop
  | .exc x ρ,M=>okE (h (ρ.set i (some x)) M) (endK i kf)
  | fl,M=>kf fl M
@[simp] theorem s_try_ {i:Nat}{h:GS}:okE (sTry sa i h ρ M) kf↔okE (sa ρ M) (tryK i h kf):=by
  simp only [sTry,zbk];refine iff_of_eq ?_;congr 1;funext fl M
  cases fl with
  | exc x ρ =>
    show okE ((h (ρ.set i (some x)) M).bind (xEnd i)) kf=okE (h (ρ.set i (some x)) M) (endK i kf)
    simp only [zbk];congr 1;funext fl M;cases fl<;>rfl
  | next ρ=>rfl
  | ret d=>rfl
@[simp] theorem e_instX {o:Option Nat}:okE (zcp o a ρ M) k↔okE (a ρ M) fun x M=>∃ i p,x=.exc i p /\ k (.bl (match o with | some j=>j==i | none=>true)) M:=by
  simp only [zcp,zbk];refine iff_of_eq ?_;congr 1;funext x M
  cases x with
  | exc i p=>exact propext ⟨fun h=>⟨_,_,rfl,h⟩,fun ⟨_,_,e,h⟩=>by cases e;exact h⟩
  | _=>simp
theorem ztq {α:Type} (f:α->D->Mem->Res α) (ds:List D):∀ (m i:Nat) (a:α) (M:Mem),ds.length - i < m->i≤ds.length->zfg f (fun _=>some ds) m i a M=eachR f (ds.drop i) a M
  | 0,i,a,M,h,_=>absurd h (Nat.not_lt_zero _)
  | m + 1, i, a, M, h, hi => by
    show (match ds[i]? with | none=>Res.ok a M | some d=>(f a d M).bind (zfg f (fun _=>some ds) m (i+1)))=_
    by_cases hlt:i < ds.length
    · rw [List.drop_eq_getElem_cons hlt,List.getElem?_eq_getElem hlt]
      show (f a ds[i] M).bind _=(f a ds[i] M).bind _
      congr 1
      funext a M
      exact ztq f ds m (i+1) a M (by omega) hlt
    · have e:i=ds.length:=by omega
      subst e
      rw [List.getElem?_eq_none (Nat.le_refl _),List.drop_length]
      rfl
theorem zh2 {α:Type}{f:α->D->Mem->Res α}{w:Walk}{ds:List D}{a:α}{k:α->Mem->Prop} (I:Nat->α->Mem->Prop) (hw:∀ i a M,I i a M->w M=some ds) (h0:I 0 a M)
    (hs:∀ i d a M,ds[i]?=some d->I i a M->okE (f a d M) (I (i+1))) (hk:∀ a M,I ds.length a M->k a M):okE (zes f w a M) k:=by
  have key:∀ (m i:Nat) (a:α) (M:Mem),ds.length - i < m->i≤ds.length->I i a M->okE (zfg f w m i a M) k:=by
    intro m
    induction m with
    | zero=>intro i a M h;exact absurd h (Nat.not_lt_zero _)
    | succ m ih =>
      intro i a M h hi hI
      show okE (match w M with | none=>Res.bad | some ds=>match ds[i]? with | none=>Res.ok a M | some d=>(f a d M).bind (zfg f w m (i+1))) k
      rw [hw i a M hI]
      dsimp only
      by_cases hlt:i < ds.length
      · rw [List.getElem?_eq_getElem hlt]
        simp only [zbk]
        exact zbu (hs i ds[i] a M (List.getElem?_eq_getElem hlt) hI) fun a' M' h'=>ih (i+1) a' M' (by omega) hlt h'
      · have e:i=ds.length:=by omega
        subst e
        rw [List.getElem?_eq_none (Nat.le_refl _)]
        exact hk a M hI
  unfold zes
  rw [hw 0 a M h0]
  exact key _ 0 a M (by simp) (Nat.zero_le _) h0
theorem zhw {t:Tgt}{w:Walk}{gb:GS}{ds:List D} (I:Nat->Env->Mem->Prop) (hw:∀ i ρ M,I i ρ M->w M=some ds) (h0:I 0 ρ M)
    (hs:∀ i d ρ M,ds[i]?=some d->I i ρ M->∃ ρ1,zde t d ρ=some ρ1 /\ okE (gb ρ1 M) fun fl M=>∃ ρ',fl=.next ρ' /\ I (i+1) ρ' M) (hk:∀ ρ M,I ds.length ρ M->kf (.next ρ) M):okE (zes (zhp t gb) w (.next ρ) M) kf:=by
  refine zh2 (fun i fl M=>∃ ρ,fl=.next ρ /\ I i ρ M) (fun i fl M ⟨ρ,_,h⟩=>hw i ρ M h) ⟨ρ,rfl,h0⟩ ?_ ?_
  · rintro i d fl M hd ⟨ρ,rfl,hI⟩
    obtain ⟨ρ1,e,h⟩:=hs i d ρ M hd hI
    simp only [zhp,zbk,zi8,e]
    exact ⟨ρ1,rfl,h⟩
  · rintro fl M ⟨ρ,rfl,hI⟩
    exact hk ρ M hI
@[simp] theorem zqb {tg:Tgt}{w:GW}{gb:GS}:okE (zd3 tg w gb ρ M) kf↔okE (w ρ M) fun w M=>okE (zes (zhp tg gb) w (.next ρ) M) kf:=by simp [zd3]
@[simp] theorem zq7 {m:Bool}{n:Nat}{tg:Tgt}{w:GW}{g:GB}:okE (zb3 m n tg w g ρ M) k↔okE (w ρ M) fun w M=>okE (zes (zeg tg g (List.replicate n none++ρ)) w [] M) fun acc M=>okE (zb5 m acc M) k:=by simp [zb3]
variable {kl:List D->Mem->Prop}
@[simp] theorem b_fin {ge:GE}{acc:List D}:okE (zb7 ge ρ acc M) kl↔okE (ge ρ M) fun x M=>acc.length < sz /\ kl (acc++[x]) M:=by
  simp only [zb7,zbk];refine iff_of_eq ?_;congr 1;funext x M;split<;>simp [*]
theorem comp_map {tg:Tgt}{w:Walk}{ge:GE}{ds:List D}{ρ0:Env} (I:Nat->List D->Mem->Prop) (hz:ds.length≤sz) (hw:∀ i acc M,I i acc M->w M=some ds) (h0:I 0 [] M)
    (hs:∀ i d acc M,ds[i]?=some d->acc.length=i->I i acc M->∃ ρ1,zde tg d ρ0=some ρ1 /\ okE (ge ρ1 M) fun x M=>I (i+1) (acc++[x]) M) (hk:∀ acc M,acc.length=ds.length->I ds.length acc M->kl acc M) :
    okE (zes (zeg tg (zb7 ge) ρ0) w [] M) kl:=by
  refine zh2 (fun i acc M=>acc.length=i /\ I i acc M) (fun i acc M h=>hw i acc M h.2) ⟨rfl,h0⟩ ?_ (fun acc M h=>hk acc M h.1 h.2)
  rintro i d acc M hd ⟨hl,hI⟩
  obtain ⟨ρ1,e,h⟩:=hs i d acc M hd hl hI
  have hi:i < ds.length:=(List.getElem?_eq_some_iff.mp hd).1
  simp only [zeg,zbk,zi8,e,b_fin]
  exact ⟨ρ1,rfl,zbu h fun x M h=>⟨by omega,by simp [hl],h⟩⟩
end
theorem za0 {t:GT}{A rest:GS}{ρ:Env}{M:Mem}{k:Fl->Mem->Prop} (ht:t ρ M=.ok false M) (h:okE (rest ρ M) k):okE (zae (za4 t A zai) rest ρ M) k:=by
  simp only [zbn,zi5]
  rw [ht]
  exact h
theorem zcg {t:GT}{e:GE}{rest:GS}{ρ:Env}{M:Mem}{v:D}{k:Fl->Mem->Prop} (ht:t ρ M=.ok true M) (he:e ρ M=.ok v M) (h:k (.ret v) M):okE (zae (za4 t (zae (zar e) zai) zai) rest ρ M) k:=by
  simp only [zbn,zi5,zd2]
  rw [ht]
  show okE (e ρ M) _
  rw [he]
  exact h
theorem zsq {e:GE}{ρ:Env}{M:Mem}{v:D}{k:Fl->Mem->Prop} (he:e ρ M=.ok v M) (h:k (.ret v) M):okE (zae (zar e) zai ρ M) k:=by
  simp only [zbn,zd2]
  rw [he]
  exact h
theorem zdk {r:Res Fl}{v:D}{M:Mem} (e:r=.ok (.ret v) M):okE r (zhn fun x M'=>x=v /\ M'=M):=by rw [e];exact ⟨rfl,rfl⟩
end LD
namespace LD
open PySem
structure zkk (P:Nat->Option Df):Prop where
  is_between:P 0=some ⟨3,3,zfz⟩
  is_word:P 1=some ⟨2,2,zhk⟩
  is_place:P 2=some ⟨2,2,zgv⟩
  is_cost:P 3=some ⟨1,1,zhl⟩
  is_tuple_of:P 4=some ⟨2,2,zfo⟩
  is_table:P 5=some ⟨2,2,zgu⟩
  is_double_table:P 6=some ⟨2,2,zed⟩
  is_turn:P 7=some ⟨3,6,zgl⟩
  is_join:P 8=some ⟨3,7,zgn⟩
  is_move:P 9=some ⟨3,6,zgm⟩
  is_put:P 10=some ⟨3,6,zg7⟩
  is_deed:P 11=some ⟨3,5,zfy⟩
  is_machine:P 12=some ⟨1,4,ze6⟩
  need_machine:P 13=some ⟨1,1,zcc⟩
  is_deed_number:P 16=some ⟨2,2,zll⟩
  need_numbers:P 17=some ⟨2,4,znv⟩
  need_row:P 18=some ⟨2,2,zuc⟩
  turned:P 20=some ⟨2,6,zy5⟩
  joined:P 21=some ⟨2,7,zy8⟩
  moved:P 22=some ⟨2,6,z2i⟩
  put_in:P 23=some ⟨2,6,zy6⟩
  done:P 24=some ⟨2,4,b_done⟩
  all_standing:P 25=some ⟨3,5,znx⟩
structure zju (P:Nat->Option Df):Prop where
  law_spread:P 28=some ⟨2,6,zgc⟩
  law_open:P 29=some ⟨1,4,zhb⟩
  law_anew:P 30=some ⟨1,1,zhd⟩
  law_take:P 31=some ⟨2,5,zix⟩
  law_tab:P 32=some ⟨2,6,zhu⟩
  law_deed:P 33=some ⟨3,7,zhc⟩
  law_machine:P 34=some ⟨4,8,zf7⟩
@[simp] theorem env_z {d:Option D}{r:Env}:(d::r)[0]?.getD none=d:=rfl
section
variable {M:Mem}{k:D->Mem->Prop}
theorem zid {α:Type}{c:Prop} [Decidable c] {r:Res α}{k:α->Mem->Prop}:okE (if c then r else .bad) k↔c /\ okE r k:=by split<;>simp [*]
@[simp] theorem zgx {m:Bool}{i j:Int}:okE (zfj m .add (.int i) (.int j) M) k↔k (.int (i+j)) M:=Iff.rfl
@[simp] theorem zls {m:Bool}{i j:Int}:okE (zfj m .sub (.int i) (.int j) M) k↔k (.int (i - j)) M:=Iff.rfl
@[simp] theorem zqt {m:Bool}{i j:Int}:okE (zfj m .mul (.int i) (.int j) M) k↔((-(2 ^ 64) < i /\ i < 2 ^ 64) \/ (-(2 ^ 64) < j /\ j < 2 ^ 64)) /\ k (.int (i * j)) M:=zid
@[simp] theorem zmi {m:Bool}{i j:Int}:okE (zfj m .mod (.int i) (.int j) M) k↔0 < j /\ k (.int (i % j)) M:=zid
@[simp] theorem fdiv_ii {m:Bool}{i j:Int}:okE (zfj m .fdiv (.int i) (.int j) M) k↔(0 < j /\ j < 1073741824) /\ k (.int (i / j)) M:=zid
@[simp] theorem zqf {m:Bool}{i j:Int}:okE (zfj m .pow (.int i) (.int j) M) k↔(0≤j /\ j≤1000000 /\ i.natAbs < 2 ^ 64) /\ k (.int (i ^ j.toNat)) M:=zid
@[simp] theorem zmw {m:Bool}{x y:List D}:okE (zfj m .add (.tup x) (.tup y) M) k↔(x++y).length≤sz /\ k (.tup (x++y)) M:=by
  show okE (zjk _ _) k↔_
  unfold zjk;exact zid
@[simp] theorem add_ll {m:Bool}{x y:List D}:okE (zfj m .add (.lst x) (.lst y) M) k↔okE (zb5 m (x++y) M) k:=Iff.rfl
@[simp] theorem v_c_lt {i j:Int}:zb1 .lt (.int i) (.int j) M=some (decide (i < j)):=rfl
@[simp] theorem v_c_le {i j:Int}:zb1 .le (.int i) (.int j) M=some (decide (i≤j)):=rfl
@[simp] theorem v_c_gt {i j:Int}:zb1 .gt (.int i) (.int j) M=some (decide (j < i)):=rfl
@[simp] theorem v_c_ge {i j:Int}:zb1 .ge (.int i) (.int j) M=some (decide (j≤i)):=rfl
@[simp] theorem c_eqi {i j:Int}:zb1 .eq (.int i) (.int j) M=some (i==j):=rfl
@[simp] theorem c_nei {i j:Int}:zb1 .ne (.int i) (.int j) M=some (!(i==j)):=rfl
@[simp] theorem tru_bl {b:Bool}:zir M (.bl b)=some b:=rfl
@[simp] theorem tru_tup {ds:List D}:zir M (.tup ds)=some (!ds.isEmpty):=rfl
@[simp] theorem tru_lst {ds:List D}:zir M (.lst ds)=some (!ds.isEmpty):=rfl
@[simp] theorem znm {ds:List D}:okE (ze5 .len [.tup ds] M) k↔k (.int ds.length) M:=Iff.rfl
@[simp] theorem z1p {ds:List D}:okE (ze5 .len [.lst ds] M) k↔k (.int ds.length) M:=Iff.rfl
@[simp] theorem z2k {ds:List D}:okE (ze5 .all [.lst ds] M) k↔∃ bs,boolsOf ds=some bs /\ k (.bl (bs.all id)) M:=by
  show okE (match boolsOf ds with | some bs=>_ | none=>_) k↔_
  cases boolsOf ds<;>simp
@[simp] theorem sum_lst {ds:List D}:okE (ze5 .sum [.lst ds] M) k↔∃ bs,intsOf ds=some bs /\ k (.int bs.sum) M:=by
  show okE (match intsOf ds with | some bs=>_ | none=>_) k↔_
  cases intsOf ds<;>simp
@[simp] theorem tuple_lst {ds:List D}:okE (ze5 .tuple [.lst ds] M) k↔k (.tup ds) M:=Iff.rfl
@[simp] theorem tuple_cell {j:Nat}:okE (ze5 .tuple [.cell j] M) k↔∃ ds,M[j]?=some ds /\ k (.tup ds) M:=by
  show okE (match M[j]? with | some xs=>_ | none=>_) k↔_
  cases M[j]?<;>simp
@[simp] theorem zyk {m:Bool}{ds:List D}:okE (ze5 (.list m) [.lst ds] M) k↔okE (zb5 m ds M) k:=Iff.rfl
@[simp] theorem z1t {ds:List D}{i:Int}:zg5 (.tup ds) (.int i) M=(ixN ds.length i).bind fun j=>ds[j]?:=rfl
@[simp] theorem zsn {ds:List D}{i:Int}:zg5 (.lst ds) (.int i) M=(ixN ds.length i).bind fun j=>ds[j]?:=rfl
@[simp] theorem idx_cell {j:Nat}{i:Int}:zg5 (.cell j) (.int i) M=(M[j]?).bind fun ds=>(ixN ds.length i).bind fun j=>ds[j]?:=rfl
theorem zhh {n i:Nat} (h:i < n):ixN n (i:Int)=some i:=by
  unfold ixN;rw [if_pos (Int.natCast_nonneg i),if_pos (by exact_mod_cast h)];rfl
end
theorem za6 {α:Type}{r:Res α}{d:α}{M:Mem} (h:okE r fun x M'=>x=d /\ M'=M):r=.ok d M:=by
  obtain ⟨a,M',e,rfl,rfl⟩:=ztl.mp h
  exact e
theorem zaz {r:Res D}{d:D}{M:Mem} (h:okE r fun x M'=>x=d /\ M'=M):r=.ok d M:=by
  obtain ⟨a,M',e,rfl,rfl⟩:=ztl.mp h
  exact e
section
variable {P:Nat->Option Df} (h:zkk P) {M:Mem}
include h
end
theorem zke {tg:Tgt}{w:Walk}{ge:GE}{ds:List D}{ρ0:Env}{M:Mem}{kl:List D->Mem->Prop} (f:D->D) (hz:ds.length≤sz) (hw:w M=some ds) (hs:∀ d∈ds,∃ ρ1,zde tg d ρ0=some ρ1 /\ ge ρ1 M=.ok (f d) M) (hk:kl (ds.map f) M) :
    okE (zes (zeg tg (zb7 ge) ρ0) w [] M) kl:=by
  refine comp_map (fun i acc M'=>M'=M /\ acc=(ds.take i).map f) hz (fun i acc M' h=>by rw [h.1];exact hw) ⟨rfl,rfl⟩ ?_ ?_
  · rintro i d acc M' hd _ ⟨rfl,rfl⟩
    obtain ⟨ρ1,e1,e2⟩:=hs d (List.mem_of_getElem? hd)
    refine ⟨ρ1,e1,?_⟩
    rw [e2]
    refine ⟨rfl,?_⟩
    have hi:i < ds.length:=(List.getElem?_eq_some_iff.mp hd).1
    rw [List.take_succ,hd]
    simp
  · rintro acc M' _ ⟨rfl,rfl⟩
    simpa using hk
abbrev nD (n:Nat):D:=.int (n:Int)
def zcz (l:List Nat):D:=.tup (l.map nD)
inductive zbw where
  | turn (at_:Nat) (tab:List Nat) (cost:Nat)
  | join (at_ other:Nat) (tab:List (List Nat)) (cost:Nat)
  | move (at_ other cost:Nat)
  | put (at_ word cost:Nat)
def zbw.d:zbw->D
  | .turn a t c=>.tup [.str "turn",nD a,zcz t,nD c]
  | .join a o t c=>.tup [.str "join",nD a,nD o,.tup (t.map zcz),nD c]
  | .move a o c=>.tup [.str "move",nD a,nD o,nD c]
  | .put a w c=>.tup [.str "put",nD a,nD w,nD c]
def zbw.cost:zbw->Nat
  | .turn _ _ c=>c
  | .join _ _ _ c=>c
  | .move _ _ c=>c
  | .put _ _ c=>c
structure zgh where
  words:Nat
  places:Nat
  deeds:List zbw
def zgh.d (m:zgh):D:=.tup [nD m.words,nD m.places,.tup (m.deeds.map zbw.d)]
def zhv (w:Nat) (t:List Nat):Prop:=t.length=w /\ ∀ x∈t,x < w
def zf3 (c:Nat):Prop:=1≤c /\ c≤3
def zf2 (w p:Nat):zbw->Prop
  | .turn a t c=>a < p /\ zhv w t /\ zf3 c
  | .join a o t c=>a < p /\ o < p /\ (t.length=w /\ ∀ x∈t,zhv w x) /\ zf3 c
  | .move a o c=>a < p /\ o < p /\ zf3 c
  | .put a x c=>a < p /\ x < w /\ zf3 c
structure zrp (m:zgh):Prop where
  w2:2≤m.words
  w4:m.words≤4
  p1:1≤m.places
  p2:m.places≤2
  d1:1≤m.deeds.length
  d6:m.deeds.length≤6
  ok:∀ d∈m.deeds,zf2 m.words m.places d
theorem zba {n:Nat} (h:n≤100000):n≤sz:=Nat.le_trans h (by decide)
section
variable {P:Nat->Option Df} (h:zkk P) {M:Mem}
include h
end
theorem lkS1:zdw.lookup (Str.ofString "turn")=some 7:=by decide +kernel
theorem lkS2:zdw.lookup (Str.ofString "join")=some 8:=by decide +kernel
theorem lkS3:zdw.lookup (Str.ofString "move")=some 9:=by decide +kernel
theorem lkS4:zdw.lookup (Str.ofString "put")=some 10:=by decide +kernel
section
variable {P:Nat->Option Df} (h:zkk P) {M:Mem}
include h
end
end LD
namespace LD
open PySem
structure Sub (M M':Mem):Prop where
  len:M.length≤M'.length
  at':∀ k,k < M.length->M'[k]?=M[k]?
theorem Sub.refl {M:Mem}:Sub M M:=⟨Nat.le_refl _,fun _ _=>rfl⟩
theorem Sub.trans {M M1 M2:Mem} (a:Sub M M1) (b:Sub M1 M2):Sub M M2:=⟨Nat.le_trans a.len b.len,fun k hk=>(b.at' k (Nat.lt_of_lt_of_le hk a.len)).trans (a.at' k hk)⟩
theorem Sub.app {M X:Mem}:Sub M (M++X):=⟨by simp,fun k hk=>List.getElem?_append_left hk⟩
theorem Sub.get {k:Nat}{M M':Mem}{ds:List D} (h:Sub M M') (e:M[k]?=some ds):M'[k]?=some ds:=by rw [h.at' k (List.getElem?_eq_some_iff.mp e).1];exact e
theorem Sub.setq {M M':Mem}{q:Nat}{ds:List D} (h:Sub M M') (hq:M.length≤q):Sub M (M'.set q ds):=⟨by simpa using h.len,fun k hk=>by rw [List.getElem?_set_ne (by omega)];exact h.at' k hk⟩
theorem zt8 {tg:Tgt}{w:Walk}{ge:GE}{ds:List D}{ρ0:Env}{M:Mem}{acc0:List D}{kl:List D->Mem->Prop} (f:D->D) (hz:acc0.length+ds.length≤sz) (hw:w M=some ds) (hs:∀ d∈ds,∃ ρ1,zde tg d ρ0=some ρ1 /\ ge ρ1 M=.ok (f d) M) (hk:kl (acc0++ds.map f) M) :
    okE (zes (zeg tg (zb7 ge) ρ0) w acc0 M) kl:=by
  refine zh2 (ds:=ds) (fun i acc M'=>M'=M /\ acc=acc0++(ds.take i).map f) (fun i acc M' h=>by rw [h.1];exact hw) ⟨rfl,by simp⟩ ?_ ?_
  · rintro i d acc M' hd ⟨rfl,rfl⟩
    obtain ⟨ρ1,e1,e2⟩:=hs d (List.mem_of_getElem? hd)
    have hi:i < ds.length:=(List.getElem?_eq_some_iff.mp hd).1
    simp only [zeg,zbk,zi8,e1,b_fin]
    refine ⟨ρ1,rfl,?_⟩
    rw [e2]
    refine ⟨by simp;omega,rfl,?_⟩
    rw [List.take_succ,hd]
    simp
  · rintro acc M' ⟨rfl,rfl⟩
    simpa using hk
theorem znr {α β:Type} (f:α->List β) (n:Nat):∀ (ds:List α),(∀ d∈ds,(f d).length≤n)->(ds.flatMap f).length≤ds.length * n
  | [],_=>by simp
  | d :: r, h => by
    have h1:=h d List.mem_cons_self
    have h2:=znr f n r fun d hd=>h d (List.mem_cons_of_mem _ hd)
    simp only [List.flatMap_cons,List.length_append,List.length_cons,Nat.succ_mul]
    omega
theorem zt9 {t u:Tgt}{w:Walk}{gw2:GW}{ge:GE}{ds:List D}{ρ0:Env}{M:Mem}{kl:List D->Mem->Prop} (its:D->List D) (f:D->D->D) (n:Nat) (hn:∀ d∈ds,(its d).length≤n) (hz:ds.length * n≤sz) (hw:w M=some ds)
    (hs:∀ d∈ds,∃ ρ1,zde t d ρ0=some ρ1 /\ ∃ w2,gw2 ρ1 M=.ok w2 M /\ w2 M=some (its d) /\ ∀ e∈its d,∃ ρ2,zde u e ρ1=some ρ2 /\ ge ρ2 M=.ok (f d e) M) (hk:kl (ds.flatMap fun d=>(its d).map (f d)) M) :
    okE (zes (zeg t (zli u gw2 (zb7 ge)) ρ0) w [] M) kl:=by
  refine zh2 (ds:=ds) (fun i acc M'=>M'=M /\ acc=(ds.take i).flatMap fun d=>(its d).map (f d)) (fun i acc M' h=>by rw [h.1];exact hw) ⟨rfl,by simp⟩ ?_ ?_
  · rintro i d acc M' hd ⟨rfl,rfl⟩
    obtain ⟨ρ1,e1,w2,e2,e3,e4⟩:=hs d (List.mem_of_getElem? hd)
    have hi:i < ds.length:=(List.getElem?_eq_some_iff.mp hd).1
    simp only [zeg,zbk,zi8,e1,zli]
    refine ⟨ρ1,rfl,?_⟩
    rw [e2]
    show okE (zes (zeg u (zb7 ge) ρ1) w2 _ M') _
    have e5:(ds.take (i+1)).flatMap (fun d=>(its d).map (f d))=(ds.take i).flatMap (fun d=>(its d).map (f d))++(its d).map (f d):=by
      rw [List.take_succ,hd];simp
    have l1:=znr (fun d=>(its d).map (f d)) n (ds.take (i+1)) (fun d hd=>by simpa using hn d (List.mem_of_mem_take hd))
    rw [e5] at l1
    simp only [List.length_append,List.length_map,List.length_take] at l1
    refine zt8 (f d) ?_ e3 e4 ⟨rfl,e5.symm⟩
    have:(min (i+1) ds.length) * n≤ds.length * n:=Nat.mul_le_mul_right _ (Nat.min_le_right _ _)
    omega
  · rintro acc M' ⟨rfl,rfl⟩
    simpa using hk
def ext1 (w:Nat) (l:List (List Nat)):List (List Nat):=l.flatMap fun s=>(List.range w).map fun x=>s++[x]
def zc4 (w:Nat):Nat->List (List Nat)
  | 0=>[[]]
  | p+1=>ext1 w (zc4 w p)
def begs (m:zgh):List (List Nat):=zc4 m.words m.places
theorem zrg {w p:Nat}:∀ s∈zc4 w p,s.length=p /\ ∀ x∈s,x < w:=by
  induction p with
  | zero=>intro s hs;simp [zc4] at hs;subst hs;simp
  | succ p ih =>
    intro s hs
    simp only [zc4,ext1,List.mem_flatMap,List.mem_map,List.mem_range] at hs
    obtain ⟨t,ht,x,hx,rfl⟩:=hs
    obtain ⟨h1,h2⟩:=ih t ht
    refine ⟨by simp [h1],fun y hy=>?_⟩
    rcases List.mem_append.mp hy with z | z
    · exact h2 y z
    · simp at z;omega
theorem zhj {w:Nat} (hw:w≤4):∀ p≤2,(zc4 w p).length≤4 ^ p
  | 0,_=>by simp [zc4]
  | p + 1, hp => by
    have:=zhj hw p (by omega)
    have l:=znr (fun s:List Nat=>(List.range w).map fun x=>s++[x]) 4 (zc4 w p) (fun d hd=>by simpa using hw)
    simp only [zc4,ext1]
    calc _≤(zc4 w p).length * 4:=l
      _≤4 ^ p * 4:=Nat.mul_le_mul_right _ this
      _=4 ^ (p+1):=by rw [Nat.pow_succ]
def z1m:zbw->List Nat->Nat
  | .turn a t _,s=>t.getD (s.getD a 0) 0
  | .join a o t _,s=>(t.getD (s.getD a 0) []).getD (s.getD o 0) 0
  | .move _ o _,s=>s.getD o 0
  | .put _ x _,_=>x
def zbw.at':zbw->Nat
  | .turn a _ _=>a
  | .join a _ _ _=>a
  | .move a _ _=>a
  | .put a _ _=>a
def doDeed (d:zbw) (s:List Nat):List Nat:=s.take d.at'++[z1m d s]++s.drop (d.at'+1)
theorem getD_mem {α:Type}{l:List α}{i:Nat}{d:α} (h:i < l.length):l.getD i d∈l:=by
  rw [List.getD_eq_getElem?_getD,List.getElem?_eq_getElem h];exact List.getElem_mem h
def RowOk (m:zgh) (r:List Nat):Prop:=r.length≤40 /\ ∀ i∈r,i < m.deeds.length
def zz9 (m:zgh) (i:Nat):zbw:=m.deeds.getD i (.put 0 0 1)
def endS (m:zgh):List Nat->List Nat->List Nat
  | [],s=>s
  | i::r,s=>endS m r (doDeed (zz9 m i) s)
theorem zwd {d:zbw}{M:Mem}:zg5 d.d (.int (-1)) M=some (nD d.cost):=by cases d<;>rfl
def zdz (M:Mem) (x:D) (r:List Nat):Prop:=x=.lst (r.map nD) \/ ∃ q,x=.cell q /\ M[q]?=some (r.map nD)
theorem zdz.l {M:Mem}{r:List Nat}:zdz M (.lst (r.map nD)) r:=.inl rfl
theorem zdz.c {M:Mem}{q:Nat}{r:List Nat} (h:M[q]?=some (r.map nD)):zdz M (.cell q) r:=.inr ⟨q,rfl,h⟩
theorem zdz.sub {M M':Mem}{x:D}{r:List Nat} (h:zdz M x r) (s:Sub M M'):zdz M' x r:=h.elim .inl fun ⟨q,e,g⟩=>.inr ⟨q,e,s.get g⟩
theorem zdz.seq {M:Mem}{x:D}{r:List Nat} (h:zdz M x r):zcn M x=some (r.map nD):=by
  rcases h with rfl | ⟨q,rfl,e⟩
  · rfl
  · exact e
theorem zdz.rd {M:Mem}{x:D}{r:List Nat} (h:zdz M x r):rdD M x=some (r.map nD):=by
  rcases h with rfl | ⟨q,rfl,e⟩
  · rfl
  · exact e
theorem zdz.is {M:Mem}{x:D}{r:List Nat} (h:zdz M x r):zeh x=true /\ zha x=true /\ zcj .list x=some true:=by
  rcases h with rfl | ⟨q,rfl,e⟩<;>exact ⟨rfl,rfl,rfl⟩
theorem zdz.len {M:Mem}{x:D}{r:List Nat}{k:D->Mem->Prop} (h:zdz M x r):okE (ze5 .len [x] M) k↔k (.int r.length) M:=by
  rcases h with rfl | ⟨q,rfl,e⟩
  · show k (.int (r.map nD).length) M↔_
    simp
  · show okE (match M[q]? with | some xs=>_ | none=>_) k↔_
    rw [e];simp
theorem zdz.list {M:Mem}{x:D}{r:List Nat}{m:Bool}{k:D->Mem->Prop} (h:zdz M x r):okE (ze5 (.list m) [x] M) k↔okE (zb5 m (r.map nD) M) k:=by
  rcases h with rfl | ⟨q,rfl,e⟩
  · exact Iff.rfl
  · show okE (match M[q]? with | some xs=>_ | none=>_) k↔_
    rw [e]
theorem zdz.non {M:Mem}{x:D}{r:List Nat} (h:zdz M x r):zil x=false:=by
  rcases h with rfl | ⟨q,rfl,e⟩<;>rfl
section
variable {P:Nat->Option Df} (h:zkk P) {M:Mem}
include h
end
section
variable {P:Nat->Option Df} (h:zkk P) {M:Mem}
include h
end
end LD
namespace LD
open PySem
@[simp] theorem len_cell {j:Nat}{M:Mem}{k:D->Mem->Prop}:okE (ze5 .len [.cell j] M) k↔∃ ds,M[j]?=some ds /\ k (.int ds.length) M:=by
  show okE (match M[j]? with | some xs=>_ | none=>_) k↔_
  cases M[j]?<;>simp
structure zbf (M:Mem) (p B:Nat):Prop where
  ex:∃ (c:Nat) (cells:List Int) (at_ st:Int),M[p]?=some [.cell c,.int at_,.int st] /\ M[c]?=some (cells.map D.int) /\ c < p /\ 0≤at_ /\ at_≤B /\ 0≤st
structure zby (p:Nat) (M M':Mem):Prop where
  len:M.length≤M'.length
  at':∀ k,k < M.length->k≠p->M'[k]?=M[k]?
theorem zby.refl {p:Nat}{M:Mem}:zby p M M:=⟨Nat.le_refl _,fun _ _ _=>rfl⟩
theorem zby.trans {p:Nat}{M M1 M2:Mem} (a:zby p M M1) (b:zby p M1 M2):zby p M M2:=⟨Nat.le_trans a.len b.len,fun k hk n=>(b.at' k (Nat.lt_of_lt_of_le hk a.len) n).trans (a.at' k hk n)⟩
theorem zby.set {p:Nat}{M:Mem}{ds:List D}:zby p M (M.set p ds):=⟨by simp,fun k _ n=>List.getElem?_set_ne (Ne.symm n)⟩
theorem zby.app {p:Nat}{M X:Mem}:zby p M (M++X):=⟨by simp,fun k hk _=>List.getElem?_append_left hk⟩
theorem zby.get {p k:Nat}{M M':Mem}{ds:List D} (h:zby p M M') (e:M[k]?=some ds) (n:k≠p):M'[k]?=some ds:=by rw [h.at' k (List.getElem?_eq_some_iff.mp e).1 n];exact e
theorem zbf.lt {M:Mem}{p B:Nat} (h:zbf M p B):p < M.length:=by obtain ⟨_,_,_,_,e,_⟩:=h.ex;exact (List.getElem?_eq_some_iff.mp e).1
theorem zbf.app {M X:Mem}{p B:Nat} (h:zbf M p B):zbf (M++X) p B:=by
  obtain ⟨c,cells,a,st,e1,e2,r⟩:=h.ex
  exact ⟨c,cells,a,st,by rw [List.getElem?_append_left (List.getElem?_eq_some_iff.mp e1).1];exact e1,by rw [List.getElem?_append_left (List.getElem?_eq_some_iff.mp e2).1];exact e2,r⟩
theorem zbf.mono {M:Mem}{p B B':Nat} (h:zbf M p B) (hb:B≤B'):zbf M p B':=by
  obtain ⟨c,cells,a,st,e1,e2,e3,e4,e5,e6⟩:=h.ex
  exact ⟨c,cells,a,st,e1,e2,e3,e4,by omega,e6⟩
theorem zbf.setq {M:Mem}{p q B:Nat}{ds:List D} (h:zbf M p B) (hq:p < q):zbf (M.set q ds) p B:=by
  obtain ⟨c,cells,a,st,e1,e2,e3,e4,e5,e6⟩:=h.ex
  exact ⟨c,cells,a,st,by rw [List.getElem?_set_ne (by omega)];exact e1,by rw [List.getElem?_set_ne (by omega)];exact e2,e3,e4,e5,e6⟩
theorem zby.setq {p q:Nat}{M M':Mem}{ds:List D} (h:zby p M M') (hq:M.length≤q):zby p M (M'.set q ds):=⟨by simpa using h.len,fun k hk n=>by rw [List.getElem?_set_ne (by omega)];exact h.at' k hk n⟩
theorem zv1 {a b A B:Int} (h1:0≤a) (h2:a≤A) (h3:0≤b) (h4:b≤B):0≤a * b /\ a * b≤A * B:=
  ⟨Int.mul_nonneg h1 h3,Int.mul_le_mul h2 h4 h3 (Int.le_trans h1 h2)⟩
def z06:List D:=[.int 2147483629,.int 2147483587,.int 2147483579,.int 2147483563,.int 2147483549,.int 2147483543,.int 2147483497,.int 2147483489,.int 2147483477,.int 2147483423,.int 2147483399,.int 2147483353,.int 2147483323]
theorem zle (j:Int) (M:Mem):∃ q:Int,zg5 (.lst z06) (.int (j % 13)) M=some (.int q) /\ 0 < q /\ q < 2147483648:=by
  have h1:0≤j % 13:=Int.emod_nonneg _ (by decide)
  have h2:j % 13 < 13:=Int.emod_lt_of_pos _ (by decide)
  generalize j % 13=i at h1 h2
  have:i=0 \/ i=1 \/ i=2 \/ i=3 \/ i=4 \/ i=5 \/ i=6 \/ i=7 \/ i=8 \/ i=9 \/ i=10 \/ i=11 \/ i=12:=by omega
  rcases this with rfl | rfl | rfl | rfl | rfl | rfl | rfl | rfl | rfl | rfl | rfl | rfl | rfl<;>exact ⟨_,rfl,by decide,by decide⟩
section
variable {P:Nat->Option Df} (h:zju P) {M:Mem}
include h
theorem zu0 (n:Nat) {x a:Int} (h0:0≤a) (h1:a≤1000000):okE (zaq P (n+1) 28 [.int x,.int a] M) fun d M'=>M'=M /\ ∃ v:Int,d=.int v /\ 0≤v:=by
  refine za2 h.law_spread rfl ?_
  simp [-zsn,zgc]
  by_cases hx:(1000000000000000000:Int)≤x
  · exact .inr ⟨hx,by omega⟩
  · have r1:=Int.emod_nonneg x (show (1000000007:Int)≠0 by decide)
    have r2:=Int.emod_lt_of_pos x (show (0:Int) < 1000000007 by decide)
    have r3:=Int.emod_nonneg x (show (65537:Int)≠0 by decide)
    have r4:=Int.emod_lt_of_pos x (show (0:Int) < 65537 by decide)
    obtain ⟨m1,m2⟩:=zv1 r1 (Int.le_of_lt r2) (show 0≤2 * a+69069 by omega) (show 2 * a+69069≤2069069 by omega)
    refine .inl ⟨by omega,by decide,by decide,by decide,.inl ⟨by omega,by omega⟩,by omega,?_⟩
    obtain ⟨q1,e1,p1,p2⟩:=zle a M
    refine ⟨.int q1,e1,?_⟩
    generalize (x % 1000000007 * (2 * a+69069)+a * 40503+977) ^ 3=y1
    have b1:=Int.emod_nonneg y1 (show q1≠0 by omega)
    have b2:=Int.emod_lt_of_pos y1 p1
    generalize hz1:y1 % q1=one at b1 b2
    obtain ⟨m3,m4⟩:=zv1 b1 (show one≤2147483648 by omega) (show 0≤a+3 by omega) (show a+3≤1000003 by omega)
    simp only [zmi,zqt,zgx,zqf,hz1]
    refine ⟨p1,.inr ⟨by omega,by omega⟩,⟨by decide,by decide,by omega⟩,?_⟩
    obtain ⟨q2,e2,p3,p4⟩:=zle (a+5) M
    refine ⟨.int q2,e2,?_⟩
    generalize (one * (a+3)+x % 65537+5) ^ (5:Int).toNat=y2
    have b3:=Int.emod_nonneg y2 (show q2≠0 by omega)
    have b4:=Int.emod_lt_of_pos y2 p3
    generalize hz2:y2 % q2=two at b3 b4
    have r5:=Int.emod_nonneg one (show (1009:Int)≠0 by decide)
    have r6:=Int.emod_lt_of_pos one (show (0:Int) < 1009 by decide)
    simp only [zmi,zqt,zgx,zqf,hz2]
    refine ⟨p3,by decide,⟨by decide,by decide,by omega⟩,?_⟩
    obtain ⟨q3,e3,p5,p6⟩:=zle (a+7) M
    refine ⟨.int q3,e3,?_⟩
    generalize (two+one % 1009+a) ^ (3:Int).toNat=y3
    have b5:=Int.emod_nonneg y3 (show q3≠0 by omega)
    simp only [zmi,zqt,zgx,zqf]
    refine ⟨p5,.inr ⟨by decide,by decide⟩,.inr ⟨by decide,by decide⟩,trivial,_,rfl,by omega⟩
omit h in
theorem ix30:ixN 3 0=some 0:=rfl
omit h in
theorem ix31:ixN 3 1=some 1:=rfl
omit h in
theorem ix32:ixN 3 2=some 2:=rfl
omit h in
theorem znn {l:List Int}{i:Int} (h0:0≤i) (h1:i < l.length):∃ x,((ixN l.length i).bind fun j=>Option.map D.int l[j]?)=some (.int x):=by
  obtain ⟨k,rfl⟩:=Int.eq_ofNat_of_zero_le h0
  have hk:k < l.length:=by omega
  refine ⟨l[k],?_⟩
  rw [zhh hk]
  simp [hk]
def zjg:GS:=zae (zav (.one 4) (zat false .mod (zax (zab 0) (gC (.int 2))) (zab 1))) (zae (zft (zab 0) (gC (.int 2)) (zat false .fdiv (zax (zab 0) (gC (.int 2))) (zab 1))) (zae (zar (zab 4)) (zai)))
def zm0 (c:Call):GS:=zae (zft (zab 0) (gC (.int 1)) (zat false .add (zab 2) (gC (.int 1)))) (zae (zft (zab 0) (gC (.int 2)) (zam 28 c (zaa (zab 3) (zaa (zab 2) (zah))))) (zai))
omit h in
theorem zn5 {M M1:Mem}{p c many B:Nat}{cells:List Int}{a st:Int}{x y:Option D} (e1:M1[p]?=some [.cell c,.int a,.int st]) (e2:M1[c]?=some (cells.map D.int)) (lt:c < p) (a0:0≤a) (aB:a≤(B+1:Nat)) (s0:0≤st) (k:zby p M M1)
    (h0:0 < many) (h1:many≤10000000):okE (zjg [some (.cell p),some (nD many),x,y,none] M1) (zhn fun d M'=>∃ v:Nat,d=nD v /\ v < many /\ zbf M' p (B+1) /\ zby p M M'):=by
  have hp:p < M1.length:=(List.getElem?_eq_some_iff.mp e1).1
  have ne:c≠p:=Nat.ne_of_lt lt
  have b0:(0:Int) < (many:Int):=by omega
  have r1:=Int.emod_nonneg st (show (many:Int)≠0 by omega)
  have r2:=Int.emod_lt_of_pos st b0
  simp [zjg,e1,ixN]
  refine ⟨by omega,by omega,(st % many).toNat,by omega,by omega,⟨c,cells,a,st / many,?_,?_,lt,a0,aB,Int.ediv_nonneg s0 (by omega)⟩,k.trans zby.set⟩
  · simp [hp]
  · rw [List.getElem?_set_ne (Ne.symm ne)];exact e2
theorem z0d (n:Nat) {p B many:Nat} (hp:zbf M p B) (hB:B≤1000000) (h0:0 < many) (h1:many≤10000000):okE (zaq P (n+2) 31 [.cell p,nD many] M) fun d M'=>∃ v:Nat,d=nD v /\ v < many /\ zbf M' p (B+1) /\ zby p M M':=by
  obtain ⟨c,cells,a,st,e1,e2,lt,a0,aB,s0⟩:=hp.ex
  have ne:c≠p:=Nat.ne_of_lt lt
  have hpl:p < M.length:=(List.getElem?_eq_some_iff.mp e1).1
  refine za2 h.law_take rfl ?_
  show okE (zae (za4 _ (zae _ (zae _ (zae _ (zm0 (zaq P (n+1)))))) _) zjg [some (.cell p),some (nD many),none,none,none] M) _
  have mid:∀ (x:Int),okE (zm0 (zaq P (n+1)) [some (.cell p),some (nD many),some (.int a),some (.int x),none] M) (zkm zjg (zhn fun d M'=>∃ v:Nat,d=nD v /\ v < many /\ zbf M' p (B+1) /\ zby p M M')):=by
    intro x
    unfold zm0
    simp [e1,ixN]
    refine zbu (zu0 h n (x:=x) (a:=a) a0 (by omega)) fun d M' ⟨e,v,ev,v0⟩=>?_
    subst e ev
    refine ⟨[.cell c,.int (a+1),.int st],by simp [hpl],2,by simp,?_⟩
    have k1:zby p M ((M.set p [.cell c,.int (a+1),.int st]).set p ([.cell c,.int (a+1),.int st].set 2 (.int v))):=zby.set.trans zby.set
    refine zn5 (c:=c) (cells:=cells) (a:=a+1) (st:=v) ?_ ?_ lt (by omega) (by omega) v0 k1 h0 h1
    · simp [hpl]
    · rw [List.getElem?_set_ne (Ne.symm ne),List.getElem?_set_ne (Ne.symm ne)];exact e2
  have c0:(0:Int)≤(cells.length:Int):=by omega
  simp [e1,e2,ix30,ix31,ix32,nD]
  by_cases c1:st < many
  · refine .inr ⟨c1,?_⟩
    by_cases c2:a < (cells.length:Int)
    · obtain ⟨x,ex⟩:=znn a0 c2
      exact .inr ⟨c2,_,ex,mid x⟩
    · refine .inl ⟨by omega,?_⟩
      by_cases c3:cells=[]
      · exact .inl ⟨c3,mid 0⟩
      · have c4:0 < cells.length:=List.length_pos_iff.mpr c3
        have r1:=Int.emod_nonneg (a * 5+3) (show (cells.length:Int)≠0 by omega)
        have r2:=Int.emod_lt_of_pos (a * 5+3) (show (0:Int) < (cells.length:Int) by omega)
        obtain ⟨x,ex⟩:=znn r1 r2
        refine .inr ⟨c4,_,ex,?_⟩
        simp only [zmi]
        exact ⟨by omega,mid _⟩
  · refine .inl ⟨by omega,?_⟩
    exact zn5 e1 e2 lt a0 (by omega) s0 .refl h0 h1
end
end LD
namespace LD
open PySem
def zbw.withC:zbw->Nat->zbw
  | .turn a t _,c=>.turn a t c
  | .join a o t _,c=>.join a o t c
  | .move a o _,c=>.move a o c
  | .put a x _,c=>.put a x c
theorem zxa {w p c:Nat}{d:zbw} (h:zf2 w p d) (hc:zf3 c):zf2 w p (d.withC c):=by
  cases d with
  | turn=>exact ⟨h.1,h.2.1,hc⟩
  | join=>exact ⟨h.1,h.2.1,h.2.2.1,hc⟩
  | move=>exact ⟨h.1,h.2.1,hc⟩
  | put=>exact ⟨h.1,h.2.1,hc⟩
theorem z2e {w p:Nat}{d:zbw} (h:zf2 w p d):zf3 d.cost:=by
  cases d with
  | turn=>exact h.2.2
  | join=>exact h.2.2.2
  | move=>exact h.2.2
  | put=>exact h.2.2
theorem zy0 {d:zbw}{c:Nat}{M:Mem}{k:D->Mem->Prop} (hk:k (d.withC c).d M):okE (zg4 false d.d .non (.int (-1)) M) fun x M=>okE (zfj false .add x (.tup [nD c]) M) k:=by
  cases d<;>(simp [zbw.d,zg4,sIx,cut];exact ⟨by decide,hk⟩)
theorem zxk (n:Nat) (d:zbw):zaw (n+3) d.d=true:=by
  have tp:∀ (n:Nat) (l:List Nat),(l.map nD).all (zaw n)=true:=fun n l=>by
    rw [List.all_eq_true];intro x hx;obtain ⟨i,_,rfl⟩:=List.mem_map.mp hx;cases n<;>rfl
  cases d with
  | turn a t c=>simp [zbw.d,zaw,zcz,nD];decide +kernel
  | join a o t c=>simp [zbw.d,zaw,nD,zcz];decide +kernel
  | move a o c=>simp [zbw.d,zaw,nD];decide +kernel
  | put a x c=>simp [zbw.d,zaw,nD];decide +kernel
theorem ne_nil {M:Mem}{q:Nat}{ds:List zbw} (e:M[q]?=some (ds.map zbw.d)):zb1 .ne (.cell q) (.lst []) M=some (!ds.isEmpty):=by
  have hp:(ds.map zbw.d).all (zaw 63)=true:=by
    rw [List.all_eq_true];intro x hx;obtain ⟨d,_,rfl⟩:=List.mem_map.mp hx;exact zxk 60 d
  have hv:view M (.cell q)=.lst (ds.map zbw.d):=by simp [view,e]
  have h1:zaw 64 (.lst (ds.map zbw.d))=true:=hp
  refine zsv (by rw [hv];exact h1) rfl ?_
  rw [hv]
  cases ds<;>rfl
@[simp] theorem mul_ti {m:Bool}{x:List D}{j:Int}{M:Mem}{k:D->Mem->Prop}:okE (zfj m .mul (.tup x) (.int j) M) k↔(x.length * j.toNat≤sz /\ -(2 ^ 63)≤j /\ j < 2 ^ 63) /\ k (.tup (List.replicate j.toNat x).flatten) M:=zid
@[simp] theorem mul_li {m:Bool}{x:List D}{j:Int}{M:Mem}{k:D->Mem->Prop}:okE (zfj m .mul (.lst x) (.int j) M) k↔(x.length * j.toNat≤sz /\ -(2 ^ 63)≤j /\ j < 2 ^ 63) /\ okE (zb5 m (List.replicate j.toNat x).flatten M) k:=zid
theorem zq9 {w:Nat}{ge:GE}{ρ:Env}{M:Mem}{kl:List D->Mem->Prop} (f:Nat->Nat) (hw:w≤100) (hf:∀ k,k < w->ge (some (.int (k:Int))::ρ) M=.ok (nD (f k)) M) (hk:kl (((List.range w).map f).map nD) M) :
    okE (zes (zeg (.one 0) (zb7 ge) (none::ρ)) (fun _=>some ((List.range w).map fun (k:Nat)=>D.int (k:Int))) [] M) kl:=by
  refine zke (ds:=(List.range w).map fun (k:Nat)=>D.int (k:Int)) (fun d=>match d with | .int i=>nD (f i.toNat) | _=>.non) (zba (by simp;omega)) rfl (fun d hd=>?_) ?_
  · obtain ⟨k,hk,rfl⟩:=List.mem_map.mp hd
    exact ⟨_,rfl,hf k (List.mem_range.mp hk)⟩
  · simpa [Function.comp_def] using hk
theorem zsa {w:Nat}{f:Nat->Nat} (hf:∀ k,k < w->f k < w):zhv w ((List.range w).map f):=⟨by simp,fun x hx=>by
  obtain ⟨k,hk,rfl⟩:=List.mem_map.mp hx
  exact hf k (List.mem_range.mp hk)⟩
section
variable {P:Nat->Option Df} (h:zju P) {M:Mem}
include h
theorem z0g (n:Nat) {p B:Nat} (hp:zbf M p B):okE (zaq P (n+1) 30 [.cell p] M) fun d M'=>d=.cell p /\ zbf M' p B /\ zby p M M':=by
  obtain ⟨c,cells,a,st,e1,e2,lt,a0,aB,s0⟩:=hp.ex
  have ne:c≠p:=Nat.ne_of_lt lt
  have hpl:p < M.length:=(List.getElem?_eq_some_iff.mp e1).1
  refine za2 h.law_anew rfl ?_
  simp [zhd,e1,ix32]
  refine ⟨⟨c,cells,a,0,by simp [hpl],?_,lt,a0,aB,by omega⟩,zby.set⟩
  rw [List.getElem?_set_ne (Ne.symm ne)];exact e2
abbrev Drawn (M:Mem) (p B:Nat) (Q:D->Prop):D->Mem->Prop:=fun d M'=>Q d /\ zbf M' p B /\ zby p M M'
theorem tk (n:Nat) {p B many:Nat}{k:D->Mem->Prop} (hp:zbf M p B) (hB:B≤1000000) (h0:0 < many) (h1:many≤10000000) (hk:∀ (v:Nat) (M':Mem),v < many->zbf M' p (B+1)->zby p M M'->k (nD v) M'):okE (zaq P (n+2) 31 [.cell p,nD many] M) k:=
  zbu (z0d h n hp hB h0 h1) fun d M' ⟨v,e,hv,hp',hk'⟩=>by subst e;exact hk v M' hv hp' hk'
theorem zuz (n:Nat) {p B w:Nat} (hp:zbf M p B) (hB:B≤900000) (w2:2≤w) (w4:w≤4):okE (zaq P (n+3) 32 [.cell p,nD w] M) fun d M'=>∃ t,d=zcz t /\ zhv w t /\ zbf M' p (B+7) /\ zby p M M':=by
  refine za2 h.law_tab rfl ?_
  simp only [zhu,zbn,zec,zdr,zcm,zc1,e_c,zct]
  simp only [Option.some.injEq,exists_eq_left',List.getElem?_cons_zero,List.getElem?_cons_succ,Option.getD_some,List.map_cons,List.map_nil,List.cons_append,List.nil_append]
  refine tk h n (many:=6) hp (by omega) (by decide) (by decide) fun kind M1 hk p1 k1=>?_
  simp [nD]
  refine tk h n p1 (by omega) (by omega) (by omega) fun word M2 hw p2 k2=>?_
  simp [nD]
  refine tk h n p2 (by omega) (by omega) (by omega) fun other M3 ho p3 k3=>?_
  have K3:=(k1.trans k2).trans k3
  simp [nD]
  have fin:∀ (l:List Nat) (M':Mem),zhv w l->zbf M' p (B+7)->zby p M M'->(l.map nD).length≤sz /\ ∃ t,D.tup (l.map nD)=zcz t /\ zhv w t /\ zbf M' p (B+7) /\ zby p M M':=fun l M' hl hp' hk'=>⟨zba (by simp [hl.1];omega),l,rfl,hl,hp',hk'⟩
  have p7:zbf M3 p (B+7):=p3.mono (by omega)
  by_cases c1:kind < 2
  · refine .inr ⟨by omega,by omega,?_⟩
    refine comp_map (ds:=(List.range w).map fun (k:Nat)=>D.int (k:Int)) (fun i acc M'=>∃ t:List Nat,acc=t.map nD /\ (∀ x∈t,x < w) /\ zbf M' p (B+3+i) /\ zby p M M') (zba (by simp;omega)) (fun _ _ _ _=>rfl) ⟨[],rfl,by simp,p3,K3⟩ ?_ ?_
    · rintro i d acc M' hd _ ⟨t,rfl,ht,hp',hk'⟩
      have hi:i < w:=by
        have:=(List.getElem?_eq_some_iff.mp hd).1
        simpa using this
      refine ⟨_,rfl,?_⟩
      simp
      refine tk h n hp' (by omega) (by omega) (by omega) fun v M4 hv p4 k4=>⟨t++[v],by simp,fun x hx=>?_,p4.mono (by omega),hk'.trans k4⟩
      rcases List.mem_append.mp hx with z | z
      · exact ht x z
      · simp at z;omega
    · rintro acc M' hl ⟨t,rfl,ht,hp',hk'⟩
      simp at hl
      exact fin t M' ⟨hl,ht⟩ (hp'.mono (by simp;omega)) hk'
  refine .inl ⟨by omega,?_⟩
  by_cases c2:kind=2
  · refine .inr ⟨by omega,by omega,?_⟩
    refine zq9 (fun k=>(k+1+word) % w) (by omega) (fun k hk=>zaz ?_) (fin _ M3 (zsa fun k _=>Nat.mod_lt _ (by omega)) p7 K3)
    simp
    omega
  refine .inl ⟨by omega,?_⟩
  by_cases c3:kind=3
  · refine .inr ⟨by omega,by omega,?_⟩
    refine zq9 (fun k=>if k=word then other else k) (by omega) (fun k hk=>zaz ?_) (fin _ M3 (zsa fun k hk=>by split<;>omega) p7 K3)
    by_cases ck:k=word
    · simp [ck]
    · have:¬ ((k:Int)=(word:Int)):=by omega
      simp [ck,this]
  refine .inl ⟨by omega,?_⟩
  by_cases c4:kind=4
  · refine .inr ⟨by omega,by decide,⟨zba (by omega),by omega⟩,List.replicate w word,?_,⟨by simp,fun x hx=>by rw [List.eq_of_mem_replicate hx];exact hw⟩,p7,K3⟩
    simp [zcz,nD]
  · refine .inl ⟨by omega,by omega,zba (by omega),word,zhh hw,other,zhh ho,((List.range w).set word other).set other word,?_,⟨by simp,fun x hx=>?_⟩,p7.app,K3.trans zby.app⟩
    · simp [zcz,nD,List.map_set]
    · rcases List.mem_or_eq_of_mem_set hx with z | z
      · rcases List.mem_or_eq_of_mem_set z with y | y
        · exact List.mem_range.mp y
        · omega
      · omega
theorem zxp (n:Nat) {p B w pl:Nat} (hp:zbf M p B) (hB:B≤800000) (w2:2≤w) (w4:w≤4) (p1:1≤pl) (p2:pl≤2):okE (zaq P (n+4) 33 [.cell p,nD w,nD pl] M) fun d M'=>∃ e:zbw,d=e.d /\ zf2 w pl e /\ zbf M' p (B+40) /\ zby p M M':=by
  refine za2 h.law_deed rfl ?_
  simp only [zhc,zbn,zec,zdr,zcm,zc1,e_c,zct]
  simp only [Option.some.injEq,exists_eq_left',List.getElem?_cons_zero,List.getElem?_cons_succ,Option.getD_some,List.map_cons,List.map_nil,List.cons_append,List.nil_append]
  refine tk h (n+1) (many:=8) hp (by omega) (by decide) (by decide) fun kind M1 hk q1 k1=>?_
  simp [nD]
  refine tk h (n+1) (many:=3) q1 (by omega) (by decide) (by decide) fun price M2 hc q2 k2=>?_
  simp [nD]
  refine tk h (n+1) q2 (by omega) (by omega) (by omega) fun at_ M3 ha q3 k3=>?_
  simp [nD]
  refine tk h (n+1) q3 (by omega) (by omega) (by omega) fun other M4 ho q4 k4=>?_
  have K4:=((k1.trans k2).trans k3).trans k4
  simp [nD]
  have ec:(1+(price:Int))=((1+price:Nat):Int):=by omega
  have co:zf3 (1+price):=⟨by omega,by omega⟩
  rw [ec]
  by_cases c1:kind < 3
  · refine .inr ⟨by omega,zbu (zuz h n q4 (by omega) w2 w4) fun d M' ⟨t,e,ht,hp',hk'⟩=>⟨by decide,.turn at_ t (1+price),?_,⟨ha,ht,co⟩,hp'.mono (by omega),K4.trans hk'⟩⟩
    subst e;rfl
  refine .inl ⟨by omega,?_⟩
  by_cases c2:kind < 5
  · refine .inr ⟨by omega,?_⟩
    by_cases c3:kind=3
    · refine .inr ⟨by omega,by omega,by decide,.move at_ ((at_+1) % pl) (1+price),?_,⟨ha,Nat.mod_lt _ (by omega),co⟩,q4.mono (by omega),K4⟩
      simp [zbw.d,nD]
    · exact .inl ⟨by omega,by decide,.move at_ other (1+price),rfl,⟨ha,ho,co⟩,q4.mono (by omega),K4⟩
  refine .inl ⟨by omega,?_⟩
  by_cases c4:kind=5
  · exact .inr ⟨by omega,tk h (n+1) q4 (by omega) (by omega) (by omega) fun v M5 hv q5 k5=>⟨by decide,.put at_ v (1+price),rfl,⟨ha,hv,co⟩,q5.mono (by omega),K4.trans k5⟩⟩
  · refine .inl ⟨by omega,by omega,?_⟩
    refine comp_map (ds:=(List.range w).map fun (k:Nat)=>D.int (k:Int)) (fun i acc M'=>∃ t:List (List Nat),acc=t.map zcz /\ (∀ x∈t,zhv w x) /\ zbf M' p (B+4+i * 7) /\ zby p M M') (zba (by simp;omega)) (fun _ _ _ _=>rfl) ⟨[],rfl,by simp,q4,K4⟩ ?_ ?_
    · rintro i d acc M' hd _ ⟨t,rfl,ht,hp',hk'⟩
      have hi:i < w:=by
        have:=(List.getElem?_eq_some_iff.mp hd).1
        simpa using this
      refine ⟨_,rfl,?_⟩
      simp
      refine zbu (zuz h n hp' (by omega) w2 w4) fun d M4 ⟨v,e,hv,p4,k4⟩=>⟨t++[v],by subst e;simp,fun x hx=>?_,p4.mono (by omega),hk'.trans k4⟩
      rcases List.mem_append.mp hx with z | z
      · exact ht x z
      · simp at z;subst z;exact hv
    · rintro acc M' hl ⟨t,rfl,ht,hp',hk'⟩
      simp at hl
      refine ⟨zba (by simp [hl];omega),by decide,.join at_ other t (1+price),rfl,⟨ha,ho,⟨hl,ht⟩,co⟩,hp'.mono (by simp;omega),hk'⟩
theorem zs2 (n:Nat) {p B W Pl mo:Nat} (hp:zbf M p B) (hB:B≤700000) (W2:2≤W) (W4:W≤4) (P1:1≤Pl) (P2:Pl≤2) (m1:1≤mo) (m6:mo≤6):okE (zaq P (n+5) 34 [.cell p,nD W,nD Pl,nD mo] M) fun d M'=>∃ m:zgh,d=m.d /\ zrp m /\ m.words≤W /\ m.places≤Pl /\ m.deeds.length≤mo /\ zbf M' p (B+300) /\ zby p M M':=by
  refine za2 h.law_machine rfl ?_
  simp only [zf7,zbn,zec,zdr,zcm,zc1,e_c,zct,zim]
  simp only [Option.some.injEq,exists_eq_left',List.getElem?_cons_zero,List.getElem?_cons_succ,Option.getD_some,List.map_cons,List.map_nil,List.cons_append,List.nil_append,zls,nD]
  rw [show ((W:Int) - 1)=((W - 1:Nat):Int) by omega]
  refine tk h (n+2) hp (by omega) (by omega) (by omega) fun w M1 hw q1 k1=>?_
  simp [nD]
  refine tk h (n+2) q1 (by omega) (by omega) (by omega) fun pl M2 hpl q2 k2=>?_
  simp [nD]
  have pl2:p < M2.length:=q2.lt
  have K2:=k1.trans k2
  refine tk h (n+2) q2.app (by omega) (by omega) (by omega) fun many M3 hmany q3 k3=>?_
  have e3:M3[M2.length]?=some []:=k3.get (by simp) (by omega)
  have K3:zby p M M3:=K2.trans (zby.app.trans k3)
  have ML:M.length≤M2.length:=K2.len
  simp only [zgx,D.int.injEq,exists_eq_left']
  refine ⟨⟨by omega,by omega⟩,?_⟩
  rw [show (1+(many:Int)).toNat=1+many by omega]
  generalize hq:M2.length=q at *
  refine zhw (ds:=(List.range (1+many)).map fun (k:Nat)=>D.int (k:Int)) (fun i ρ M'=>∃ ds:List zbw,M'[q]?=some (ds.map zbw.d) /\ ds.length=i /\ (∀ d∈ds,zf2 (2+w) (1+pl) d) /\ zbf M' p (B+3+i * 45) /\ zby p M M' /\ ∃ a b c,ρ=[some (.cell p),some (nD (2+w)),some (nD (1+pl)),some (nD mo),some (.cell q),a,b,c])
    (fun _ _ _ _=>rfl) ⟨[],e3,rfl,by simp,q3,K3,none,none,none,by simp [nD]⟩ ?_ ?_
  · rintro i d ρ M' hd ⟨ds,e4,hl,hds,q4,K4,a,b,c,rfl⟩
    have hi:i < 1+many:=by
      have:=(List.getElem?_eq_some_iff.mp hd).1
      simpa using this
    refine ⟨_,rfl,?_⟩
    have fin:∀ (e:zbw) (M'':Mem) (x y:Option D),zf2 (2+w) (1+pl) e->M''[q]?=some (ds.map zbw.d)->zbf M'' p (B+3+(i+1) * 45)->zby p M M''->
        ∃ es:List zbw,(M''.set q (ds.map zbw.d++[e.d]))[q]?=some (es.map zbw.d) /\ es.length=i+1 /\ (∀ d∈es,zf2 (2+w) (1+pl) d) /\ zbf (M''.set q (ds.map zbw.d++[e.d])) p (B+3+(i+1) * 45) /\ zby p M (M''.set q (ds.map zbw.d++[e.d])):=by
      intro e M'' x y he e5 q5 K5
      refine ⟨ds++[e],?_,by simp [hl],fun d hd=>?_,q5.setq (by omega),K5.setq (by omega)⟩
      · rw [List.getElem?_set_self (List.getElem?_eq_some_iff.mp e5).1];simp
      · rcases List.mem_append.mp hd with z | z
        · exact hds d z
        · simp at z;subst z;exact he
    simp only [zbn,zec,zdr,zcm,zc1,e_c,zct,zcq]
    simp [nD]
    refine tk h (n+2) (many:=5) q4 (by omega) (by decide) (by decide) fun again M5 ha q5 k5=>?_
    have e5:=k5.get e4 (by omega)
    simp [nD]
    rw [show (2+(w:Int))=((2+w:Nat):Int) by omega,show (1+(pl:Int))=((1+pl:Nat):Int) by omega]
    refine zbu (zxp h n (w:=2+w) (pl:=1+pl) q5 (by omega) (by omega) (by omega) (by omega) (by omega)) fun d6 M6 ⟨e,ed,he,q6,k6⟩=>?_
    subst ed
    have e6:=k6.get e5 (by omega)
    have K6:=(K4.trans k5).trans k6
    have sm:∀ l:List zbw,l.length≤50->(l.map zbw.d).length < sz:=fun l hl=>Nat.lt_of_le_of_lt (show (l.map zbw.d).length≤50 by simpa using hl) (by decide)
    have hsm:=sm ds (by omega)
    by_cases c1:again=0
    · refine .inr ⟨c1,?_⟩
      cases hde:ds with
      | nil =>
        refine .inl ⟨by rw [ne_nil e6,hde];rfl,_,e6,hsm,fin e M6 none none he e6 (q6.mono (by omega)) K6⟩
      | cons d0 dr =>
        have hpos:0 < ds.length:=by rw [hde];simp
        refine .inr ⟨by rw [ne_nil e6,hde];rfl,_,e6,?_⟩
        rw [List.length_map]
        refine tk h (n+2) q6 (by omega) hpos (by omega) fun v M7 hv q7 k7=>?_
        have e7:=k7.get e6 (by omega)
        refine ⟨(ds.getD v e).d,?_,rfl,rfl,?_⟩
        · show (M7[q]?).bind (fun ds=>(ixN ds.length (v:Int)).bind fun j=>ds[j]?)=_
          rw [e7]
          show (ixN (ds.map zbw.d).length (v:Int)).bind (fun j=>(ds.map zbw.d)[j]?)=_
          rw [zhh (by simpa using hv)]
          simp [List.getD_eq_getElem?_getD,hv]
        · refine zbu (zy0 (d:=ds.getD v e) (c:=e.cost) (k:=fun x M_4=>∃ x_2,M_4[q]?=some x_2 /\ x_2.length < sz /\ ∃ es:List zbw,(List.set M_4 q (x_2++[x]))[q]?=some (es.map zbw.d) /\ es.length=i+1 /\ (∀ d∈es,zf2 (2+w) (1+pl) d) /\ zbf (List.set M_4 q (x_2++[x])) p (B+3+(i+1) * 45) /\ zby p M (List.set M_4 q (x_2++[x]))) ?_) fun x1 M3 hx=>⟨nD e.cost,zwd,by decide,hx⟩
          exact ⟨_,e7,hsm,fin _ M7 none none (zxa (hds _ (getD_mem hv)) (z2e he)) e7 (q7.mono (by omega)) (K6.trans k7)⟩
    · exact .inl ⟨c1,_,e6,hsm,fin e M6 none none he e6 (q6.mono (by omega)) K6⟩
  · rintro ρ M' ⟨ds,e4,hl,hds,q4,K4,a,b,c,rfl⟩
    simp [e4]
    refine ⟨by decide,⟨2+w,1+pl,ds⟩,rfl,⟨by show 2≤2+w;omega,by show 2+w≤4;omega,by show 1≤1+pl;omega,by show 1+pl≤2;omega,?_,?_,hds⟩,by show 2+w≤W;omega,by show 1+pl≤Pl;omega,?_,q4.mono ?_,K4⟩
    · show 1≤ds.length;simp at hl;omega
    · show ds.length≤6;simp at hl;omega
    · show ds.length≤mo;simp at hl;omega
    · simp;omega
end
end LD
namespace LD
open PySem
theorem z0h {xs:List D}{a b:Nat}{M:Mem}{k:D->Mem->Prop}:okE (zg4 false (.frz xs) (.int a) (.int b) M) k↔(cut xs (min a xs.length) (min b xs.length)).length≤sz /\ k (.lst (cut xs (min a xs.length) (min b xs.length))) M:=by
  show okE (match sIx xs.length 0 (.int a),sIx xs.length xs.length (.int b) with | some l,some h=>zb5 false (cut xs l h) M | _,_=>.bad) k↔_
  have e1:sIx xs.length 0 (.int a)=some (min a xs.length):=by
    show some _=_
    rw [if_neg (by omega)];simp
  have e2:sIx xs.length xs.length (.int b)=some (min b xs.length):=by
    show some _=_
    rw [if_neg (by omega)];simp
  rw [e1,e2]
  exact zfr
theorem zxs {xs:List D}{b:Nat}{M:Mem}{k:D->Mem->Prop}:okE (zg4 false (.frz xs) .non (.int b) M) k↔(cut xs 0 (min b xs.length)).length≤sz /\ k (.lst (cut xs 0 (min b xs.length))) M:=by
  show okE (match sIx xs.length 0 D.non,sIx xs.length xs.length (.int b) with | some l,some h=>zb5 false (cut xs l h) M | _,_=>.bad) k↔_
  have e2:sIx xs.length xs.length (.int b)=some (min b xs.length):=by
    show some _=_
    rw [if_neg (by omega)];simp
  rw [e2]
  exact zfr
theorem zsr {α β:Type} (f:α->β) (l:List α) (a b:Nat):cut (l.map f) a b=(cut l a b).map f:=by simp [cut,List.map_take,List.map_drop]
theorem zns {α:Type} (l:List α) (a b:Nat):(cut l a b).length≤l.length:=by simp [cut];omega
section
variable {P:Nat->Option Df} (h:zju P) {M:Mem}
include h
theorem z0f (n:Nat) {ns:List Int} (hn:ns.length≤63):okE (zaq P (n+1) 29 [.frz (ns.map D.int)] []) fun d M'=>d=.cell 1 /\ zbf M' 1 0:=by
  refine za2 h.law_open rfl ?_
  simp [zhb,zc7]
  refine (zxs (b:=12)).mpr ⟨?_,?_⟩
  · exact zba (Nat.le_trans (zns _ _ _) (by simp;omega))
  simp only [zyk,z1h]
  refine ⟨zba (Nat.le_trans (zns _ _ _) (by simp;omega)),(z0h (a:=12) (b:=63)).mpr ⟨zba (Nat.le_trans (zns _ _ _) (by simp;omega)),⟨rfl,rfl⟩,?_⟩⟩
  rw [zsr,zsr]
  simp only [List.length_map,List.length_nil,List.nil_append]
  have e63:min 63 ns.length=ns.length:=by omega
  rw [e63]
  refine zhw (ds:=zfh 0 ((cut ns (min 12 ns.length) ns.length).map D.int)) (fun i ρ M'=>∃ l:List Int,M'=[l.map D.int] /\ l.length=min 12 ns.length /\ ∃ a b,ρ=[some (.frz (ns.map D.int)),some (.cell 0),a,b]) (fun _ _ _ _=>rfl) ⟨cut ns 0 (min 12 ns.length),rfl,by simp [cut],none,none,rfl⟩ ?_ ?_
  · rintro i d ρ M' hd ⟨l,rfl,hl,a,b,rfl⟩
    rw [zkc,List.getElem?_map] at hd
    cases e:(cut ns (min 12 ns.length) ns.length)[i]? with
    | none=>rw [e] at hd;cases hd
    | some x =>
      rw [e] at hd
      have hd:D.tup [.int ((0+i:Nat):Int),.int x]=d:=Option.some.inj hd
      subst hd
      have hi:=(List.getElem?_eq_some_iff.mp e).1
      have hlen:12 < ns.length:=by
        by_cases c:12 < ns.length
        · exact c
        · have:min 12 ns.length=ns.length:=by omega
          rw [this] at hi
          simp [cut] at hi
      have l12:l.length=12:=by omega
      have r1:=Int.emod_nonneg (i:Int) (show (12:Int)≠0 by decide)
      have r2:=Int.emod_lt_of_pos (i:Int) (show (0:Int) < 12 by decide)
      obtain ⟨y,ey⟩:=znn (l:=l) r1 (by rw [l12];exact r2)
      obtain ⟨k,ek⟩:∃ k:Nat,(i:Int) % 12=(k:Int):=⟨((i:Int) % 12).toNat,by omega⟩
      refine ⟨_,rfl,?_⟩
      simp
      rw [ek] at ey ⊢
      have hk:k < l.length:=by omega
      refine ⟨_,ey,?_⟩
      simp only [zgx]
      refine ⟨l.map D.int,rfl,k,?_,l.set k (y+x),?_,by simp [hl]⟩
      · simpa using zhh hk
      · simp [List.map_set]
  · rintro ρ M' ⟨l,rfl,hl,a,b,rfl⟩
    simp
    exact ⟨by decide,⟨0,l,0,0,rfl,rfl,by decide,by decide,by decide,by decide⟩⟩
end
end LD
namespace LD
open PySem
theorem Sub.keep {p:Nat}{M M':Mem} (h:Sub M M'):zby p M M':=⟨h.len,fun k hk _=>h.at' k hk⟩
theorem Sub.pen {p B:Nat}{M M':Mem} (h:Sub M M') (hp:zbf M p B):zbf M' p B:=by
  obtain ⟨c,cells,a,st,e1,e2,r⟩:=hp.ex
  exact ⟨c,cells,a,st,h.get e1,h.get e2,r⟩
structure Has07 (P:Nat->Option Df):Prop where
  m:zkk P
  p:zju P
  row:P 35=some ⟨3,6,zmu⟩
  h14:P 14=some ⟨2,5,znw⟩
  h15:P 15=some ⟨1,6,zkg⟩
  h19:P 19=some ⟨2,2,b_cost⟩
  h26:P 26=some ⟨3,3,b_run⟩
  h27:P 27=some ⟨2,2,zk6⟩
  h46:P 46=some ⟨2,2,zor⟩
  h47:P 47=some ⟨2,2,zo4⟩
  right:P 36=some ⟨3,9,zrj⟩
  law:P 37=some ⟨1,9,b_law⟩
section
variable {P:Nat->Option Df} (h:Has07 P) {M:Mem}
include h
end
end LD
namespace LD
open PySem
structure HasB (P:Nat->Option Df):Prop where
  after:P 41=some ⟨2,4,zrk⟩
  begins:P 42=some ⟨1,1,zd9⟩
structure zui (P:Nat->Option Df):Prop where
  same:P 40=some ⟨2,2,zcx⟩
theorem zn0:∀ ds:List D,zhm ds ds=ds.map fun d=>.tup [d,d]
  | []=>rfl
  | d::r=>by simp [zhm,zn0 r]
theorem zmg {ds:List D}{M:Mem}:zb1 .notin (.bl false) (.lst (ds.map fun _=>.bl true)) M=some true:=by
  show ((zcn M (.lst (ds.map fun _=>.bl true))).bind (inL (view M (.bl false)))).map (!·)=_
  show (inL (.bl false) (ds.map fun _=>.bl true)).map (!·)=_
  unfold inL
  rw [if_pos]
  · have:(ds.map fun _=>D.bl true).any (fun y=>zbp y (.bl false))=false:=by
      rw [List.any_eq_false];intro x hx;obtain ⟨_,_,rfl⟩:=List.mem_map.mp hx;simp [zbp]
    rw [this];rfl
  · simp [zaw]
theorem z56 {ds:List D}{M:Mem}:(zcn M (.lst (ds.map fun _=>.bl true))).bind ((Option.map fun x=>!x)∘inL (view M (.bl false)))=some true:=zmg (ds:=ds) (M:=M)
theorem eq_ii {i:Nat}{M:Mem}:eqM M (.int (i:Int)) (.int (i:Int))=some true:=by
  show some ((i:Int)==(i:Int))=some true
  simp
@[simp] theorem zyj {m:Bool}{ds:List D}{M:Mem}{k:D->Mem->Prop}:okE (ze5 (.list m) [.tup ds] M) k↔okE (zb5 m ds M) k:=Iff.rfl
theorem zcs {x y:Str}{b:Bool} (e:eqD (.str x) (.str y)=some b) (M:Mem):zb1 .eq (.str x) (.str y) M=some b:=by
  show (match eqD (.str x) (.str y) with | some r=>some r | none=>_)=_
  rw [e]
def zqa (c:Call):GS:=zae (za4 (zas (za8 .ne (zbg .len (zaa (zab 0) (zah))) (zbg .len (zaa (zab 1) (zah))))) (zae (zar (gC (.bl false))) (zai)) (zai)) (zae (zar (za8 .notin (gC (.bl false)) (zb3 false 2 (.tup [0,1]) (zkr (zab 0) (zab 1)) (zb7 (zam 40 c (zaa (zab 0) (zaa (zab 1) (zah)))))))) (zai))
section
variable {P:Nat->Option Df} (h:zui P) {M:Mem}
include h
theorem zu3 (n:Nat) (i:Nat):zaq P (n+1) 40 [nD i,nD i] M=.ok (.bl true) M:=by
  refine zaz (za2 h.same rfl ?_)
  show okE (zcx (zaq P n) [some (nD i),some (nD i)] M) _
  unfold zcx
  exact za0 rfl (za0 rfl (zcg rfl (v:=.bl ((i:Int)==(i:Int))) rfl ⟨by simp,rfl⟩))
theorem zvb (n:Nat) {x y:D}{ds:List D}{ρ:Env}{kl:List D->Mem->Prop} (hx:zcn M x=some ds) (hy:zcn M y=some ds) (hz:ds.length≤sz) (hs:∀ d∈ds,zaq P n 40 [d,d] M=.ok (.bl true) M) (hk:kl (ds.map fun _=>.bl true) M) :
    okE (zes (zeg (.tup [0,1]) (zb7 (zam 40 (zaq P n) (zaa (zab 0) (zaa (zab 1) zah)))) (none::none::ρ)) (zkl x y) [] M) kl:=by
  refine zke (ds:=ds.map fun d=>.tup [d,d]) (fun _=>.bl true) (by simpa using hz) ?_ ?_ ?_
  · simp [zkl,hx,hy,zn0]
  · intro d hd
    obtain ⟨e,he,rfl⟩:=List.mem_map.mp hd
    refine ⟨_,rfl,?_⟩
    refine zaz ?_
    simp
    rw [hs e he]
    exact ⟨rfl,rfl⟩
  · simpa [Function.comp_def] using hk
theorem zp9 (n:Nat) {x y:D}{ds:List D} (hx:zcn M x=some ds) (hy:zcn M y=some ds) (lx:ze5 .len [x] M=.ok (.int ds.length) M) (ly:ze5 .len [y] M=.ok (.int ds.length) M) (sx:zeh x=true) (sy:zeh y=true) (hz:ds.length≤sz) (hs:∀ d∈ds,zaq P n 40 [d,d] M=.ok (.bl true) M) :
    okE (zqa (zaq P n) [some x,some y] M) (zhn fun d M'=>d=.bl true /\ M'=M):=by
  simp [zqa,lx,ly,sx,sy]
  exact zvb h n hx hy hz hs ⟨by simpa using hz,zmg,rfl⟩
theorem zn7 (n:Nat) {ds:List D} (hz:ds.length≤sz) (hs:∀ d∈ds,zaq P n 40 [d,d] M=.ok (.bl true) M):zaq P (n+1) 40 [.tup ds,.tup ds] M=.ok (.bl true) M:=by
  refine zaz (za2 h.same rfl ?_)
  show okE (zcx (zaq P n) [some (.tup ds),some (.tup ds)] M) _
  unfold zcx
  exact za0 rfl (za0 rfl (za0 rfl (za0 rfl (za0 rfl (zp9 h n rfl rfl rfl rfl rfl rfl hz hs)))))
theorem zrq (n:Nat) {s:List Nat} (hz:s.length≤100):zaq P (n+2) 40 [zcz s,zcz s] M=.ok (.bl true) M:=
  zn7 h (n+1) (zba (by simp;omega)) fun d hd=>by obtain ⟨i,_,rfl⟩:=List.mem_map.mp hd;exact zu3 h n i
end
section
variable {P:Nat->Option Df} (h:HasB P) {M:Mem}
include h
end
end LD
namespace LD
open PySem
section
variable {ρ:Env}{M:Mem}{a b d:GE}{k:D->Mem->Prop}{kw:Walk->Mem->Prop}{kf:Fl->Mem->Prop}
@[simp] theorem w_zip3:okE (zty a b d ρ M) kw↔okE (a ρ M) fun x M=>okE (b ρ M) fun y M=>okE (d ρ M) fun z M=>(zeh x&&zeh y&&zeh z)=true /\ kw (zipW3 x y z) M:=by
  simp only [zty,zbk];refine iff_of_eq ?_;congr 1;funext x M;congr 1;funext y M;congr 1;funext z M;split<;>simp_all
@[simp] theorem e_rev {m:Bool}:okE (gRev m a ρ M) k↔okE (a ρ M) fun x M=>okE (revD m x M) k:=by simp [gRev]
@[simp] theorem rev_lst {m:Bool}{xs:List D}:okE (revD m (.lst xs) M) k↔okE (zb5 m xs.reverse M) k:=Iff.rfl
@[simp] theorem z0n {m:Bool}{xs:List D}:okE (revD m (.tup xs) M) k↔k (.tup xs.reverse) M:=Iff.rfl
@[simp] theorem s_par_ {i j:Nat}{gs:GA}:okE (sPar i j gs ρ M) kf↔okE (gs ρ M) fun ds M=>∃ a b,ds=[a,b] /\ kf (.next ((ρ.set i (some a)).set j (some b))) M:=by
  simp only [sPar,zbk];refine iff_of_eq ?_;congr 1;funext ds M
  match ds with
  | []=>simp
  | [_]=>simp
  | [_,_]=>simp;exact ⟨fun q=>⟨_,_,⟨rfl,rfl⟩,q⟩,fun ⟨_,_,⟨e1,e2⟩,q⟩=>by subst e1 e2;exact q⟩
  | _::_::_::_=>simp
@[simp] theorem e_int_:okE (gInt a ρ M) k↔okE (a ρ M) fun x M=>(∃ i,x=.int i /\ k (.int i) M) \/ ∃ b,x=.bl b /\ k (.int (if b=true then 1 else 0)) M:=by
  simp only [gInt,zbk];refine iff_of_eq ?_;congr 1;funext x M;cases x<;>simp
end
def ends (m:zgh) (r:List Nat):List (List Nat):=(begs m).map (endS m r)
section
variable {P:Nat->Option Df} (h:HasB P) {M:Mem}
include h
end
structure HasA (P:Nat->Option Df):Prop where
  h15:P 15=some ⟨1,6,zkg⟩
  h27:P 27=some ⟨2,2,zk6⟩
  h46:P 46=some ⟨2,2,zor⟩
  parted:P 48=some ⟨3,8,zy7⟩
section
variable {P:Nat->Option Df}{M:Mem}
end
end LD
namespace LD
open PySem
theorem Sub.to {p:Nat}{M M1 M':Mem} (k:zby p M M1) (h:Sub M1 M'):zby p M M':=k.trans h.keep
def pairD (p:List Nat×List Nat):D:=.tup [.lst (p.1.map nD),.lst (p.2.map nD)]
structure zwv (m:zgh) (k:Nat) (p:List Nat×List Nat):Prop where
  r1:RowOk m p.1
  r2:RowOk m p.2
  l1:p.1.length≤k
  l2:p.2.length≤k
  al:ends m p.1=ends m p.2
def AllOk (m:zgh) (k:Nat) (prs:List (List Nat×List Nat)):Prop:=∀ pr∈prs,zwv m k pr
section
variable {P:Nat->Option Df} (hp_:zju P) (h35:P 35=some ⟨3,6,zmu⟩) (hs_:HasB P) (he:P 44=some ⟨2,5,zr3⟩) (hal:P 49=some ⟨2,7,zkh⟩) {M:Mem}
include hp_ h35 hs_ he hal
end
end LD
namespace LD
open PySem
abbrev Rule:=List Nat×List Nat
structure Stp where
  place:Nat
  num:Nat
  back:Bool
def Stp.d (s:Stp):D:=.tup [nD s.place,nD s.num,.bl s.back]
structure zsw (m:zgh) (rules:List Rule):Prop where
  ok:AllOk m 3 rules
  len:rules.length≤10
theorem zsw.at {m:zgh}{rules:List Rule} (h:zsw m rules) {i:Nat} (hi:i < rules.length):zwv m 3 (rules.getD i ([],[])):=h.ok _ (getD_mem hi)
end LD
namespace LD
open PySem
theorem zoh {tg:Tgt}{w:Walk}{gc:GT}{ge:GE}{ds:List D}{ρ0:Env}{M:Mem}{kl:List D->Mem->Prop} (f:D->Bool) (g:D->D) (hz:ds.length≤sz) (hw:w M=some ds)
    (hs:∀ d∈ds,∃ ρ1,zde tg d ρ0=some ρ1 /\ gc ρ1 M=.ok (f d) M /\ (f d=true->ge ρ1 M=.ok (g d) M)) (hk:kl ((ds.filter f).map g) M):okE (zes (zeg tg (gIf gc (zb7 ge)) ρ0) w [] M) kl:=by
  refine zh2 (fun i acc M'=>M'=M /\ acc=((ds.take i).filter f).map g) (fun i acc M' h=>by rw [h.1];exact hw) ⟨rfl,rfl⟩ ?_ ?_
  · rintro i d acc M' hd ⟨rfl,rfl⟩
    obtain ⟨ρ1,e1,e2,e3⟩:=hs d (List.mem_of_getElem? hd)
    have hi:i < ds.length:=(List.getElem?_eq_some_iff.mp hd).1
    simp only [zeg,e1,zyd,Res.bind_ok,gIf,e2]
    rw [List.take_succ,hd]
    cases q:f d with
    | false =>
      simp [q]
    | true =>
      rw [if_pos rfl]
      have len:(((ds.take i).filter f).map g).length≤i:=by
        rw [List.length_map]
        exact Nat.le_trans (List.length_filter_le _ _) (by simp;omega)
      simp only [zb7,e3 q,Res.bind_ok]
      rw [if_pos (by omega)]
      simp [q]
  · rintro acc M' ⟨rfl,rfl⟩
    simpa using hk
def zkj (M:Mem) (x:D) (p:Rule):Prop:=∃ y z,x=.tup [y,z] /\ zdz M y p.1 /\ zdz M z p.2
theorem zkj.l {M:Mem}{p:Rule}:zkj M (pairD p) p:=⟨_,_,rfl,.l,.l⟩
theorem zkj.sub {M M':Mem}{x:D}{p:Rule} (h:zkj M x p) (s:Sub M M'):zkj M' x p:=let ⟨y,z,e,a,b⟩:=h;⟨y,z,e,a.sub s,b.sub s⟩
structure HasR (P:Nat->Option Df):Prop where
  is_row:P 52=some ⟨2,2,zy9⟩
  is_rule:P 53=some ⟨2,4,zwu⟩
  need_rules:P 54=some ⟨2,4,zri⟩
  behind:P 55=some ⟨3,10,zo5⟩
  stepped:P 56=some ⟨4,8,zwt⟩
  copied:P 57=some ⟨1,1,zo6⟩
section
variable {P:Nat->Option Df} (h:zkk P) (ha:HasA P) (hr_:HasR P) {M:Mem}
include h hr_
include ha
end
section
variable {P:Nat->Option Df} (h:zkk P) (ha:HasA P) (hr_:HasR P) {M:Mem}
include h hr_
include ha
omit h ha in
end
end LD
namespace LD
open PySem
def Th:Nat->Nat->D->Prop
  | _,_,.non=>True
  | _,_,.bl _=>True
  | _,_,.int _=>True
  | _,L,.str x=>x.cps.size≤L /\ x.cps.all (· < 0x110000)=true
  | n+1,L,.tup ds=>ds.length≤L /\ ∀ d∈ds,Th n L d
  | n+1,L,.lst ds=>ds.length≤L /\ ∀ d∈ds,Th n L d
  | _,_,_=>False
theorem Th.mono:∀ {n n' L L':Nat}{d:D},Th n L d->n≤n'->L≤L'->Th n' L' d
  | n,n',L,L',.non,_,_,_=>by cases n'<;>trivial
  | n,n',L,L',.bl _,_,_,_=>by cases n'<;>trivial
  | n,n',L,L',.int _,_,_,_=>by cases n'<;>trivial
  | n, n', L, L', .str x, h, _, l => by
    have h:x.cps.size≤L /\ x.cps.all (· < 0x110000)=true:=by cases n<;>exact h
    have:x.cps.size≤L' /\ x.cps.all (· < 0x110000)=true:=⟨Nat.le_trans h.1 l,h.2⟩
    cases n'<;>exact this
  | n+1,n'+1,L,L',.tup ds,h,a,l=>⟨Nat.le_trans h.1 l,fun d hd=>Th.mono (h.2 d hd) (Nat.le_of_succ_le_succ a) l⟩
  | n+1,n'+1,L,L',.lst ds,h,a,l=>⟨Nat.le_trans h.1 l,fun d hd=>Th.mono (h.2 d hd) (Nat.le_of_succ_le_succ a) l⟩
  | n+1,0,L,L',.tup ds,h,a,l=>by omega
  | n+1,0,L,L',.lst ds,h,a,l=>by omega
  | 0,n',L,L',.tup ds,h,a,l=>h.elim
  | 0,n',L,L',.lst ds,h,a,l=>h.elim
  | n,n',L,L',.frz _,h,_,_=>by cases n<;>exact h.elim
  | n,n',L,L',.cell _,h,_,_=>by cases n<;>exact h.elim
  | n,n',L,L',.fn _,h,_,_=>by cases n<;>exact h.elim
  | n,n',L,L',.exc _ _,h,_,_=>by cases n<;>exact h.elim
theorem Th.pure:∀ {n L:Nat}{d:D},Th n L d->zaw n d=true
  | n,L,.non,_=>by cases n<;>rfl
  | n,L,.bl _,_=>by cases n<;>rfl
  | n,L,.int _,_=>by cases n<;>rfl
  | n,L,.str x,h=>by cases n<;>exact h.2
  | n + 1, L, .tup ds, h => by
    show ds.all (zaw n)=true
    rw [List.all_eq_true]
    exact fun d hd=>(h.2 d hd).pure
  | n + 1, L, .lst ds, h => by
    show ds.all (zaw n)=true
    rw [List.all_eq_true]
    exact fun d hd=>(h.2 d hd).pure
  | 0,L,.tup ds,h=>h.elim
  | 0,L,.lst ds,h=>h.elim
  | n,L,.frz _,h=>by cases n<;>exact h.elim
  | n,L,.cell _,h=>by cases n<;>exact h.elim
  | n,L,.fn _,h=>by cases n<;>exact h.elim
  | n,L,.exc _ _,h=>by cases n<;>exact h.elim
theorem Th.view {n L:Nat}{d:D}{M:Mem} (h:Th n L d):view M d=d:=by
  cases d<;>first | rfl | (cases n<;>exact h.elim)
theorem Th.tup {n L:Nat}{ds:List D} (h:Th n L (.tup ds)):ds.length≤L /\ ∀ d∈ds,Th n L d:=by
  cases n with
  | zero=>exact h.elim
  | succ n=>exact ⟨h.1,fun d hd=>(h.2 d hd).mono (Nat.le_succ n) (Nat.le_refl L)⟩
def zbl (lo hi:Int):D->Bool
  | .int i=>decide (lo≤i)&&decide (i≤hi)
  | _=>false
def zfs (w:Nat):D->Bool
  | .tup ds=>ds.length==w
  | _=>false
def zg2 (w:Nat):D->Bool
  | .tup ds=>ds.length==w&&ds.all (zbl 0 ((w:Int) - 1))
  | _=>false
def zht (w:Nat):D->Bool
  | .tup ds=>ds.length==w&&ds.all (zg2 w)
  | _=>false
def zg9 (w p:Nat):List D->Bool
  | [a,t,c]=>zbl 0 ((p:Int) - 1) a&&(zg2 w t&&zbl 1 3 c)
  | _=>false
def zga (w p:Nat):List D->Bool
  | [a,o,t,c]=>zbl 0 ((p:Int) - 1) a&&(zbl 0 ((p:Int) - 1) o&&(zht w t&&zbl 1 3 c))
  | _=>false
def zgs (w p:Nat):List D->Bool
  | [a,o,c]=>zbl 0 ((p:Int) - 1) a&&(zbl 0 ((p:Int) - 1) o&&zbl 1 3 c)
  | _=>false
def zit (w p:Nat):List D->Bool
  | [a,x,c]=>zbl 0 ((p:Int) - 1) a&&(zbl 0 ((w:Int) - 1) x&&zbl 1 3 c)
  | _=>false
def zc6 (w p:Nat) (s:Str) (ds:List D):Bool:=
  if s="turn" then zg9 w p ds else if s="join" then zga w p ds else if s="move" then zgs w p ds else if s="put" then zit w p ds else false
def zgb (w p:Nat):D->Bool
  | .tup (.str s::ds)=>zc6 w p s ds
  | _=>false
def zfx:D->Bool
  | .tup ds=>decide (1≤ds.length)&&decide (ds.length≤6)
  | _=>false
def zqy:D->List D
  | .tup ds=>ds
  | _=>[]
def ze1:D->Nat
  | .int i=>i.toNat
  | _=>0
theorem zhz {lo hi:Int}{d:D} (h:zbl lo hi d=true) (h0:0≤lo):d=nD (ze1 d) /\ lo≤(ze1 d:Int) /\ (ze1 d:Int)≤hi:=by
  cases d with
  | int i =>
    simp [zbl] at h
    refine ⟨?_,?_⟩
    · show D.int i=D.int ((i.toNat:Nat):Int)
      rw [Int.toNat_of_nonneg (by omega)]
    · show lo≤((i.toNat:Nat):Int) /\ ((i.toNat:Nat):Int)≤hi
      rw [Int.toNat_of_nonneg (by omega)]
      exact h
  | _=>cases h
def zd4:D->Bool
  | .tup [a,b,c]=>zbl 2 4 a&&(zbl 1 2 b&&(zfx c&&(zqy c).all (zgb (ze1 a) (ze1 b))))
  | _=>false
theorem zqu {d:D} (h:zfs 3 d=false):zd4 d=false:=by
  match d,h with
  | .tup [a,b,c],h=>cases h
  | .tup [],_=>rfl
  | .tup [_],_=>rfl
  | .tup [_,_],_=>rfl
  | .tup (_::_::_::_::r),_=>rfl
  | .non,_=>rfl
  | .bl _,_=>rfl
  | .int _,_=>rfl
  | .str _,_=>rfl
  | .lst _,_=>rfl
  | .frz _,_=>rfl
  | .cell _,_=>rfl
  | .fn _,_=>rfl
  | .exc _ _,_=>rfl
structure zjt (P:Nat->Option Df):Prop where
  is_between:P 0=some ⟨3,3,zfz⟩
  is_word:P 1=some ⟨2,2,zhk⟩
  is_place:P 2=some ⟨2,2,zgv⟩
  is_cost:P 3=some ⟨1,1,zhl⟩
  is_tuple_of:P 4=some ⟨2,2,zfo⟩
  is_table:P 5=some ⟨2,2,zgu⟩
  is_double_table:P 6=some ⟨2,2,zed⟩
  is_turn:P 7=some ⟨3,6,zgl⟩
  is_join:P 8=some ⟨3,7,zgn⟩
  is_move:P 9=some ⟨3,6,zgm⟩
  is_put:P 10=some ⟨3,6,zg7⟩
  is_deed:P 11=some ⟨3,5,zfy⟩
  is_machine:P 12=some ⟨1,4,ze6⟩
theorem zk5 (f:D->Bool):∀ ds:List D,boolsOf (ds.map fun d=>.bl (f d))=some (ds.map f)
  | []=>rfl
  | d::r=>by simp [boolsOf,zk5 f r]
theorem all_eq {w:GW}{ge:GE}{ρ:Env}{M:Mem}{ds:List D} (f:D->Bool) (hw:okE (w ρ M) fun wk M'=>M'=M /\ wk M=some ds) (hz:ds.length≤sz) (he:∀ d∈ds,ge (some d::ρ) M=.ok (.bl (f d)) M) :
    zbg .all (zaa (zb3 false 1 (.one 0) w (zb7 ge)) zah) ρ M=.ok (.bl (ds.all f)) M:=by
  refine zaz ?_
  simp only [zjp,zcm,zq7,zc1]
  refine zbu hw fun wk M' ⟨e1,e2⟩=>?_
  subst e1
  refine zke (fun d=>.bl (f d)) hz e2 (fun d hd=>⟨some d::ρ,rfl,he d hd⟩) ?_
  simp only [zfr,List.length_map,z2k]
  refine ⟨hz,_,zk5 f ds,?_,trivial⟩
  congr 1
  rw [List.all_map];rfl
theorem zq1 {k L:Nat}{x:D} (hx:Th k L x) {t:Ty} (h:((¬ ∃ s,x=.str s) /\ t=.str \/ (¬ ∃ s,x=.tup s) /\ t=.tuple)):zcj t x=some false:=by
  rcases h with ⟨h,rfl⟩ | ⟨h,rfl⟩<;>cases x<;>first | rfl | exact absurd ⟨_,rfl⟩ h | (cases k<;>exact hx.elim)
section
variable {P:Nat->Option Df} (h:zjt P) {M:Mem}{k L:Nat}{d:D}
include h
theorem zi3 (n:Nat) (hd:Th k L d) (lo hi:Int):zaq P (n+1) 0 [d,.int lo,.int hi] M=.ok (.bl (zbl lo hi d)) M:=by
  cases d with
  | int t =>
    refine zaz (za2 h.is_between rfl ?_)
    simp [zfz,zcj,zbl]
    by_cases h1:lo≤t<;>simp [h1]<;>omega
  | fn j=>cases k<;>exact hd.elim
  | exc y p=>cases k<;>exact hd.elim
  | _=>exact zaz (za2 h.is_between rfl (zdk rfl))
theorem zpw (n:Nat) {w:Nat} (hd:Th k L d):zaq P (n+2) 1 [nD w,d] M=.ok (.bl (zbl 0 ((w:Int) - 1) d)) M:=by
  refine zaz (za2 h.is_word rfl ?_)
  simp [zhk,zi3 h _ hd]
theorem zgk (n:Nat) {w:Nat} (hd:Th k L d):zaq P (n+2) 2 [nD w,d] M=.ok (.bl (zbl 0 ((w:Int) - 1) d)) M:=by
  refine zaz (za2 h.is_place rfl ?_)
  simp [zgv,zi3 h _ hd]
theorem zjh (n:Nat) (hd:Th k L d):zaq P (n+2) 3 [d] M=.ok (.bl (zbl 1 3 d)) M:=by
  refine zaz (za2 h.is_cost rfl ?_)
  simp [zhl,zi3 h _ hd]
theorem zkn (n:Nat) {w:Nat} (hd:Th k L d):zaq P (n+1) 4 [nD w,d] M=.ok (.bl (zfs w d)) M:=by
  refine zaz (za2 h.is_tuple_of rfl ?_)
  cases d with
  | fn j=>cases k<;>exact hd.elim
  | exc y p=>cases k<;>exact hd.elim
  | tup ds =>
    simp [zfo,zcj,zfs]
    by_cases e:ds.length=w
    · simp [e]
    · have:¬ ((ds.length:Int)=(w:Int)):=by omega
      simp [e,this]
  | _=>exact zdk rfl
theorem zsb (n:Nat) {w:Nat} (hd:Th k L d) (hL:L≤100):zaq P (n+3) 5 [nD w,d] M=.ok (.bl (zg2 w d)) M:=by
  refine zaz (za2 h.is_table rfl ?_)
  have e:=zkn h (n+1) (w:=w) (M:=M) hd
  simp only [zgu,zbn,zd2,e_and,zdr,zcm,zc1,zct,List.map_cons,List.map_nil,List.cons_append,List.nil_append,List.getElem?_cons_zero,List.getElem?_cons_succ,Option.getD_some,Option.some.injEq,exists_eq_left']
  rw [e]
  refine ⟨_,rfl,?_⟩
  cases d with
  | tup ds =>
    have ht:=hd.tup
    by_cases el:ds.length=w
    · have:zfs w (.tup ds)=true:=by simp [zfs,el]
      rw [this,if_pos rfl,all_eq (ds:=ds) (zbl 0 ((w:Int) - 1)) (by simp;exact ⟨rfl,rfl⟩) (zba (by omega)) (fun d hd=>zaz (by simp [zpw h n (ht.2 d hd)]))]
      exact ⟨by simp [zg2,el],rfl⟩
    · have:zfs w (.tup ds)=false:=by simp [zfs,el]
      rw [this,if_neg (by simp)]
      exact ⟨by simp [zg2,el],rfl⟩
  | _=>exact ⟨rfl,rfl⟩
theorem zxo (n:Nat) {w:Nat} (hd:Th k L d) (hL:L≤100):zaq P (n+4) 6 [nD w,d] M=.ok (.bl (zht w d)) M:=by
  refine zaz (za2 h.is_double_table rfl ?_)
  have e:=zkn h (n+2) (w:=w) (M:=M) hd
  simp only [zed,zbn,zd2,e_and,zdr,zcm,zc1,zct,List.map_cons,List.map_nil,List.cons_append,List.nil_append,List.getElem?_cons_zero,List.getElem?_cons_succ,Option.getD_some,Option.some.injEq,exists_eq_left']
  rw [e]
  refine ⟨_,rfl,?_⟩
  cases d with
  | tup ds =>
    have ht:=hd.tup
    by_cases el:ds.length=w
    · have:zfs w (.tup ds)=true:=by simp [zfs,el]
      rw [this,if_pos rfl,all_eq (ds:=ds) (zg2 w) (by simp;exact ⟨rfl,rfl⟩) (zba (by omega)) (fun d hd=>zaz (by simp [zsb h n (ht.2 d hd) hL]))]
      exact ⟨by simp [zht,el],rfl⟩
    · have:zfs w (.tup ds)=false:=by simp [zfs,el]
      rw [this,if_neg (by simp)]
      exact ⟨by simp [zht,el],rfl⟩
  | _=>exact ⟨rfl,rfl⟩
theorem zxl (n:Nat) {w p:Nat}{ds:List D} (hd:∀ d∈ds,Th k L d) (hL:L≤100) (hl:ds.length≤100):zaq P (n+4) 7 [nD w,nD p,.tup ds] M=.ok (.bl (zg9 w p ds)) M:=by
  refine zaz (za2 h.is_turn rfl ?_)
  match ds,hd,hl with
  | [a, t, c], hd, _ =>
    simp only [List.mem_cons,List.not_mem_nil,or_false,forall_eq_or_imp,forall_eq] at hd
    simp [zgl,zfw,zgk h (n+1) hd.1,zsb h n hd.2.1 hL,zjh h (n+1) hd.2.2,zg9]
    cases zbl 0 ((p:Int) - 1) a<;>cases zg2 w t<;>simp
  | [],_,_=>exact zdk rfl
  | [_],_,_=>exact zdk rfl
  | [_,_],_,_=>exact zdk rfl
  | _ :: _ :: _ :: _ :: r, _, _ =>
    simp [zgl,zg9]
    omega
theorem zxn (n:Nat) {w p:Nat}{ds:List D} (hd:∀ d∈ds,Th k L d) (hL:L≤100) (hl:ds.length≤100):zaq P (n+5) 8 [nD w,nD p,.tup ds] M=.ok (.bl (zga w p ds)) M:=by
  refine zaz (za2 h.is_join rfl ?_)
  match ds,hd,hl with
  | [a, o, t, c], hd, _ =>
    simp only [List.mem_cons,List.not_mem_nil,or_false,forall_eq_or_imp,forall_eq] at hd
    simp [zgn,zfw,zgk h (n+2) hd.1,zgk h (n+2) hd.2.1,zxo h n hd.2.2.1 hL,zjh h (n+2) hd.2.2.2,zga]
    cases zbl 0 ((p:Int) - 1) a<;>cases zbl 0 ((p:Int) - 1) o<;>cases zht w t<;>simp
  | [],_,_=>exact zdk rfl
  | [_],_,_=>exact zdk rfl
  | [_,_],_,_=>exact zdk rfl
  | [_,_,_],_,_=>exact zdk rfl
  | _ :: _ :: _ :: _ :: _ :: r, _, _ =>
    simp [zgn,zga]
    omega
theorem zxm (n:Nat) {w p:Nat}{ds:List D} (hd:∀ d∈ds,Th k L d) (hL:L≤100) (hl:ds.length≤100):zaq P (n+3) 9 [nD w,nD p,.tup ds] M=.ok (.bl (zgs w p ds)) M:=by
  refine zaz (za2 h.is_move rfl ?_)
  match ds,hd,hl with
  | [a, t, c], hd, _ =>
    simp only [List.mem_cons,List.not_mem_nil,or_false,forall_eq_or_imp,forall_eq] at hd
    simp [zgm,zfw,zgk h n hd.1,zgk h n hd.2.1,zjh h n hd.2.2,zgs]
    cases zbl 0 ((p:Int) - 1) a<;>cases zbl 0 ((p:Int) - 1) t<;>simp
  | [],_,_=>exact zdk rfl
  | [_],_,_=>exact zdk rfl
  | [_,_],_,_=>exact zdk rfl
  | _ :: _ :: _ :: _ :: r, _, _ =>
    simp [zgm,zgs]
    omega
theorem z0e (n:Nat) {w p:Nat}{ds:List D} (hd:∀ d∈ds,Th k L d) (hL:L≤100) (hl:ds.length≤100):zaq P (n+3) 10 [nD w,nD p,.tup ds] M=.ok (.bl (zit w p ds)) M:=by
  refine zaz (za2 h.is_put rfl ?_)
  match ds,hd,hl with
  | [a, t, c], hd, _ =>
    simp only [List.mem_cons,List.not_mem_nil,or_false,forall_eq_or_imp,forall_eq] at hd
    simp [zg7,zfw,zgk h n hd.1,zpw h n hd.2.1,zjh h n hd.2.2,zit]
    cases zbl 0 ((p:Int) - 1) a<;>cases zbl 0 ((w:Int) - 1) t<;>simp
  | [],_,_=>exact zdk rfl
  | [_],_,_=>exact zdk rfl
  | [_,_],_,_=>exact zdk rfl
  | _ :: _ :: _ :: _ :: r, _, _ =>
    simp [zg7,zit]
    omega
omit h in
theorem zl8 {w p:Nat}{ds:List D}:zc6 w p "turn" ds=zg9 w p ds:=by unfold zc6;rw [if_pos rfl]
omit h in
theorem zl7 {w p:Nat}{ds:List D}:zc6 w p "join" ds=zga w p ds:=by unfold zc6;rw [if_neg (by decide +kernel),if_pos rfl]
omit h in
theorem zl6 {w p:Nat}{ds:List D}:zc6 w p "move" ds=zgs w p ds:=by unfold zc6;rw [if_neg (by decide +kernel),if_neg (by decide +kernel),if_pos rfl]
omit h in
theorem zl5 {w p:Nat}{ds:List D}:zc6 w p "put" ds=zit w p ds:=by unfold zc6;rw [if_neg (by decide +kernel),if_neg (by decide +kernel),if_neg (by decide +kernel),if_pos rfl]
omit h in
theorem zvm {w p:Nat}{ds:List D}{s:Str} (e1:¬ s="turn") (e2:¬ s="join") (e3:¬ s="move") (e4:¬ s="put"):zc6 w p s ds=false:=by unfold zc6;rw [if_neg e1,if_neg e2,if_neg e3,if_neg e4]
omit h in
theorem zs3 {s:Str} (e1:¬ s="turn") (e2:¬ s="join") (e3:¬ s="move") (e4:¬ s="put"):zdw.lookup s=none:=by
  unfold zdw
  simp only [List.lookup,beq_eq_false_iff_ne.mpr e1,beq_eq_false_iff_ne.mpr e2,beq_eq_false_iff_ne.mpr e3,beq_eq_false_iff_ne.mpr e4]
theorem zkv (n:Nat) {w p f:Nat}{s:Str}{ds:List D}{v:Bool} (lk:zdw.lookup s=some f) (q:zaq P (n+5) f [nD w,nD p,.tup ds] M=.ok (.bl v) M):zaq P (n+6) 11 [nD w,nD p,.tup (.str s::ds)] M=.ok (.bl v) M:=by
  refine zaz (za2 h.is_deed rfl ?_)
  simp [-List.lookup_isSome_iff,zfy,zcj,ixN,lk,zg4,sIx,zc7,cut,q]
theorem zyz (n:Nat) {w p:Nat}{s:Str}{ds:List D} (lk:zdw.lookup s=none):zaq P (n+6) 11 [nD w,nD p,.tup (.str s::ds)] M=.ok (.bl false) M:=by
  refine zaz (za2 h.is_deed rfl ?_)
  have e:(zdw.lookup s).isSome=false:=by rw [lk];rfl
  simp [-List.lookup_isSome_iff,-List.lookup_eq_none_iff,-Option.isSome_eq_false_iff,zfy,zcj,ixN,e]
  exact lk
theorem zxq (n:Nat) {w p:Nat} (hd:Th k L d) (hL:L≤100):zaq P (n+6) 11 [nD w,nD p,d] M=.ok (.bl (zgb w p d)) M:=by
  cases d with
  | fn j=>cases k<;>exact hd.elim
  | exc y p=>cases k<;>exact hd.elim
  | tup xs =>
    have ht:=hd.tup
    cases xs with
    | nil=>exact zaz (za2 h.is_deed rfl (zdk rfl))
    | cons x ds =>
      have hx:=ht.2 x List.mem_cons_self
      have hds:∀ d∈ds,Th k L d:=fun d hd=>ht.2 d (List.mem_cons_of_mem _ hd)
      have hl:ds.length≤100:=by have:=ht.1;simp at this;omega
      by_cases hs:∃ s,x=.str s
      · obtain ⟨s,rfl⟩:=hs
        show _=Res.ok (D.bl (zc6 w p s ds)) M
        by_cases e1:s="turn"
        · subst e1
          rw [zl8];exact zkv h n lkS1 (zxl h (n+1) hds hL hl)
        by_cases e2:s="join"
        · subst e2
          rw [zl7];exact zkv h n lkS2 (zxn h n hds hL hl)
        by_cases e3:s="move"
        · subst e3
          rw [zl6];exact zkv h n lkS3 (zxm h (n+2) hds hL hl)
        by_cases e4:s="put"
        · subst e4
          rw [zl5];exact zkv h n lkS4 (z0e h (n+2) hds hL hl)
        rw [zvm e1 e2 e3 e4]
        exact zyz h n (zs3 e1 e2 e3 e4)
      · have e1:zgb w p (.tup (x::ds))=false:=by cases x<;>first | rfl | exact absurd ⟨_,rfl⟩ hs
        have e2:=zq1 hx (t:=.str) (.inl ⟨hs,rfl⟩)
        rw [e1]
        refine zaz (za2 h.is_deed rfl ?_)
        have e3:zcj .tuple (.tup (x::ds))=some true:=rfl
        simp [zfy,ixN,e2,e3]
  | _=>exact zaz (za2 h.is_deed rfl (zdk rfl))
theorem zyi (n:Nat) (hd:Th k L d) (hn:zfs 3 d=false):zaq P (n+7) 12 [d] M=.ok (.bl false) M:=by
  refine zaz (za2 h.is_machine rfl ?_)
  have e:zaq P (n+6) 4 [.int 3,d] M=.ok (.bl (zfs 3 d)) M:=zkn h (n+5) (w:=3) (M:=M) hd
  rw [hn] at e
  simp [ze6,e]
theorem mach3 (n:Nat) {a b c:D} (hd:Th k L (.tup [a,b,c])) (hL:L≤100):zaq P (n+7) 12 [.tup [a,b,c]] M=.ok (.bl (zd4 (.tup [a,b,c]))) M:=by
  refine zaz (za2 h.is_machine rfl ?_)
  have ht:=hd.tup.2
  simp only [List.mem_cons,List.not_mem_nil,or_false,forall_eq_or_imp,forall_eq] at ht
  have e:zaq P (n+6) 4 [.int 3,.tup [a,b,c]] M=.ok (.bl true) M:=zkn h (n+5) (w:=3) (M:=M) hd
  have b1:=zi3 h (n+5) (M:=M) ht.1 2 4
  have b2:=zi3 h (n+5) (M:=M) ht.2.1 1 2
  simp only [ze6,zbn,zh9,zd2,zcq,zps,zi5,t_not,zs0,t_or,s_asgt,e_c,zdr,zcm,zc1,zct,zq6,List.map_cons,List.map_nil,List.cons_append,List.nil_append,List.getElem?_cons_zero,List.getElem?_cons_succ,Option.getD_some,Option.some.injEq,exists_eq_left']
  rw [e]
  refine ⟨_,rfl,?_⟩
  rw [if_neg (by simp)]
  refine ⟨_,_,rfl,rfl,_,rfl,?_⟩
  rw [b1]
  refine ⟨_,rfl,?_⟩
  by_cases c1:zbl 2 4 a=false
  · rw [c1,if_pos (by decide),if_pos trivial]
    exact ⟨by simp [zd4,c1],rfl⟩
  have c1:zbl 2 4 a=true:=by simpa using c1
  rw [c1,if_neg (by simp)]
  refine ⟨_,rfl,?_⟩
  rw [b2]
  refine ⟨_,rfl,?_⟩
  by_cases c2:zbl 1 2 b=false
  · rw [c2,if_pos (by decide)]
    exact ⟨by simp [zd4,c2],rfl⟩
  have c2:zbl 1 2 b=true:=by simpa using c2
  rw [c2,if_neg (by simp)]
  refine ⟨_,rfl,?_⟩
  obtain ⟨ea,_,_⟩:=zhz c1 (by decide)
  obtain ⟨eb,_,_⟩:=zhz c2 (by decide)
  cases c with
  | fn j=>exact absurd ht.2.2 (by cases k<;>exact id)
  | exc y p=>exact absurd ht.2.2 (by cases k<;>exact id)
  | tup ds =>
    have hc:=ht.2.2.tup
    refine ⟨true,rfl,true,rfl,?_⟩
    rw [if_neg (by simp)]
    simp only [e_chn,e_c]
    refine zjp.mpr (zcm.mpr (zct.mpr ⟨_,rfl,zc1.mpr (znm.mpr ⟨_,rfl,?_⟩)⟩))
    by_cases l1:(1:Int)≤(ds.length:Int)
    · rw [decide_eq_true l1,if_pos (by decide)]
      refine ⟨_,rfl,_,rfl,?_⟩
      by_cases l6:(ds.length:Int)≤6
      · rw [decide_eq_true l6,if_neg (by simp)]
        have lb:zfx (.tup ds)=true:=by simp [zfx];omega
        rw [all_eq (ds:=ds) (zgb (ze1 a) (ze1 b)) (by simp;exact ⟨rfl,rfl⟩) (zba (by omega)) (fun d hd=>zaz (by
          have q:=zxq h n (w:=ze1 a) (p:=ze1 b) (M:=M) (hc.2 d hd) hL
          rw [<- ea,<- eb] at q
          simp [q]))]
        refine ⟨?_,rfl⟩
        show D.bl (ds.all (zgb (ze1 a) (ze1 b)))=D.bl (zbl 2 4 a&&(zbl 1 2 b&&(zfx (.tup ds)&&ds.all (zgb (ze1 a) (ze1 b)))))
        rw [c1,c2,lb];simp
      · rw [decide_eq_false l6,if_pos (by decide)]
        refine ⟨?_,rfl⟩
        have lb:zfx (.tup ds)=false:=by simp [zfx];omega
        simp [zd4,lb]
    · rw [decide_eq_false l1,if_neg (by simp)]
      refine ⟨_,rfl,?_⟩
      rw [if_pos (by decide)]
      refine ⟨?_,rfl⟩
      have lb:zfx (.tup ds)=false:=by simp [zfx];omega
      simp [zd4,lb]
  | _ =>
    refine ⟨false,rfl,false,rfl,?_⟩
    rw [if_pos (by decide)]
    exact ⟨by simp [zd4,zfx],rfl⟩
theorem zpx (n:Nat) (hd:Th k L d) (hL:L≤100):zaq P (n+7) 12 [d] M=.ok (.bl (zd4 d)) M:=by
  by_cases hn:zfs 3 d=false
  · rw [zyi h n hd hn,zqu hn]
  · match d,hd,hn with
    | .tup [a,b,c],hd,_=>exact mach3 h n hd hL
    | .tup [],_,hn=>exact absurd rfl hn
    | .tup [_],_,hn=>exact absurd rfl hn
    | .tup [_,_],_,hn=>exact absurd rfl hn
    | .tup (_::_::_::_::r),_,hn=>exact absurd (by simp [zfs]) hn
    | .non,_,hn=>exact absurd rfl hn
    | .bl _,_,hn=>exact absurd rfl hn
    | .int _,_,hn=>exact absurd rfl hn
    | .str _,_,hn=>exact absurd rfl hn
    | .lst _,_,hn=>exact absurd rfl hn
    | .frz _,_,hn=>exact absurd rfl hn
    | .cell _,_,hn=>exact absurd rfl hn
    | .fn _,_,hn=>exact absurd rfl hn
    | .exc _ _,_,hn=>exact absurd rfl hn
omit h in
theorem zd5 {lo hi:Int}{n:Nat} (h1:lo≤(n:Int)) (h2:(n:Int)≤hi):zbl lo hi (nD n)=true:=by simp [zbl];omega
omit h in
theorem zpt {w:Nat}{t:List Nat} (ht:zhv w t):zg2 w (zcz t)=true:=by
  have e:(t.map nD).all (zbl 0 ((w:Int) - 1))=true:=by
    rw [List.all_eq_true]
    intro x hx
    obtain ⟨i,hi,rfl⟩:=List.mem_map.mp hx
    have:=ht.2 i hi
    exact zd5 (by omega) (by omega)
  show ((t.map nD).length==w&&(t.map nD).all (zbl 0 ((w:Int) - 1)))=true
  rw [e,List.length_map,ht.1];simp
omit h in
theorem zwg {w p:Nat}{d:zbw} (hd:zf2 w p d):zgb w p d.d=true:=by
  cases d with
  | turn a t c =>
    obtain ⟨h1,h2,h3⟩:=hd
    unfold zf3 at h3
    show zc6 w p "turn" _=true
    rw [zl8]
    simp only [zg9]
    rw [zd5 (by omega) (by omega),zpt h2,zd5 (by omega) (by omega)];rfl
  | join a o t c =>
    obtain ⟨h1,h2,h3,h4⟩:=hd
    unfold zf3 at h4
    show zc6 w p "join" _=true
    rw [zl7]
    simp only [zga]
    have e:zht w (.tup (t.map zcz))=true:=by
      have e:(t.map zcz).all (zg2 w)=true:=by
        rw [List.all_eq_true]
        intro x hx
        obtain ⟨i,hi,rfl⟩:=List.mem_map.mp hx
        exact zpt (h3.2 i hi)
      show ((t.map zcz).length==w&&(t.map zcz).all (zg2 w))=true
      rw [e,List.length_map,h3.1];simp
    rw [zd5 (by omega) (by omega),zd5 (by omega) (by omega),e,zd5 (by omega) (by omega)];rfl
  | move a o c =>
    obtain ⟨h1,h2,h3⟩:=hd
    unfold zf3 at h3
    show zc6 w p "move" _=true
    rw [zl6]
    simp only [zgs]
    rw [zd5 (by omega) (by omega),zd5 (by omega) (by omega),zd5 (by omega) (by omega)];rfl
  | put a o c =>
    obtain ⟨h1,h2,h3⟩:=hd
    unfold zf3 at h3
    show zc6 w p "put" _=true
    rw [zl5]
    simp only [zit]
    rw [zd5 (by omega) (by omega),zd5 (by omega) (by omega),zd5 (by omega) (by omega)];rfl
omit h in
theorem zv2 {m:zgh} (hm:zrp m):zd4 m.d=true:=by
  have w2:=hm.w2
  have w4:=hm.w4
  have p1:=hm.p1
  have p2:=hm.p2
  have l1:=hm.d1
  have l6:=hm.d6
  have e:(m.deeds.map zbw.d).all (zgb m.words m.places)=true:=by
    rw [List.all_eq_true]
    intro x hx
    obtain ⟨i,hi,rfl⟩:=List.mem_map.mp hx
    exact zwg (hm.ok i hi)
  have e2:zfx (.tup (m.deeds.map zbw.d))=true:=by simp [zfx];omega
  show (zbl 2 4 (nD m.words)&&(zbl 1 2 (nD m.places)&&(zfx (.tup (m.deeds.map zbw.d))&&(m.deeds.map zbw.d).all (zgb m.words m.places))))=true
  rw [zd5 (by omega) (by omega),zd5 (by omega) (by omega),e,e2];rfl
end
end LD
namespace LD
open PySem
structure HasW (P:Nat->Option Df):Prop where
  whole:P 67=some ⟨1,1,zgw⟩
  is_in:P 68=some ⟨3,3,zf0⟩
  numbers:P 69=some ⟨4,4,zf6⟩
  is_deed:P 70=some ⟨3,3,zbi⟩
  is_machine:P 71=some ⟨1,1,zee⟩
def zjz:D->Bool
  | .int _=>true
  | _=>false
theorem eq_empty {l:List D}{M:Mem} (hp:l.all (zaw 63)=true):zb1 .eq (.lst l) (.lst []) M=some l.isEmpty:=by
  refine znu hp rfl ?_
  cases l<;>rfl
theorem zmp (f:D->Bool):∀ ds:List D,((ds.filter fun d=>!f d).map fun _=>D.int 1).isEmpty=ds.all f
  | []=>rfl
  | d :: r => by
    have ih:=zmp f r
    cases q:f d with
    | true=>simpa [q] using ih
    | false=>simp [q]
theorem znf {w:GW}{gc:GT}{ρ:Env}{M:Mem}{ds:List D}{k:D->Mem->Prop} (f:D->Bool) (hw:okE (w ρ M) fun wk M'=>M'=M /\ wk M=some ds) (hz:ds.length≤sz) (he:∀ d∈ds,gc (some d::ρ) M=.ok (!f d) M) (hk:k (.bl (ds.all f)) M) :
    okE (za8 .eq (zb3 false 1 (.one 0) w (gIf gc (zb7 (gC (.int 1))))) (zbq false zah) ρ M) k:=by
  simp only [zpi,zq7,zph,zc1,zfr]
  refine zbu hw fun wk M' ⟨e1,e2⟩=>?_
  subst e1
  refine zoh (fun d=>!f d) (fun _=>.int 1) hz e2 (fun d hd=>⟨some d::ρ,rfl,he d hd,fun _=>rfl⟩) ?_
  refine ⟨Nat.le_trans (by rw [List.length_map];exact List.length_filter_le _ _) hz,zba (by decide),_,eq_empty ?_,?_⟩
  · rw [List.all_eq_true]
    intro x hx
    obtain ⟨_,_,rfl⟩:=List.mem_map.mp hx
    rfl
  · rw [zmp];exact hk
section
variable {P:Nat->Option Df} (h:HasW P) {M:Mem}{k L:Nat}{d:D}
include h
theorem zj0 (n:Nat) (hd:Th k L d):zaq P (n+1) 67 [d] M=.ok (.bl (zjz d)) M:=by
  refine zaz (za2 h.whole rfl ?_)
  cases d with
  | fn j=>cases k<;>exact hd.elim
  | exc y p=>cases k<;>exact hd.elim
  | _=>exact zdk rfl
theorem zh7 (n:Nat) (hd:Th k L d) (lo hi:Int):zaq P (n+2) 68 [d,.int lo,.int hi] M=.ok (.bl (zbl lo hi d)) M:=by
  refine zaz (za2 h.is_in rfl ?_)
  have e:=zj0 h n (M:=M) hd
  cases d with
  | fn j=>cases k<;>exact hd.elim
  | exc y p=>cases k<;>exact hd.elim
  | int i =>
    simp [zf0,e,zjz,zbl]
    by_cases q:lo≤i<;>simp [q]<;>omega
  | _=>simp [zf0,e,zjz,zbl]
def numB (many:Nat) (lo hi:Int):D->Bool
  | .tup ds=>ds.length==many&&ds.all (zbl lo hi)
  | _=>false
theorem zm1 (n:Nat) (hd:Th k L d) (hL:L≤100) {many:Nat} (lo hi:Int):zaq P (n+3) 69 [d,nD many,.int lo,.int hi] M=.ok (.bl (numB many lo hi d)) M:=by
  refine zaz (za2 h.numbers rfl ?_)
  cases d with
  | fn j=>cases k<;>exact hd.elim
  | exc y p=>cases k<;>exact hd.elim
  | tup ds =>
    have ht:=hd.tup
    simp only [zf6,zbn,zh9,zd2,zcq,zps,zi5,t_not,zs0,t_or,e_c,zct,zq6,List.map_cons,List.map_nil,List.cons_append,List.nil_append,List.getElem?_cons_zero,List.getElem?_cons_succ,Option.getD_some,Option.some.injEq,exists_eq_left']
    refine ⟨true,rfl,true,rfl,?_⟩
    rw [if_neg (by decide)]
    refine zpi.mpr (zjp.mpr (zcm.mpr (zct.mpr ⟨_,rfl,zc1.mpr (znm.mpr (zct.mpr ⟨_,rfl,_,c_nei,_,rfl,?_⟩))⟩)))
    by_cases el:ds.length=many
    · have e0:(!((ds.length:Int)==(many:Int)))=false:=by simp [el]
      rw [e0,if_neg (by decide)]
      refine znf (zbl lo hi) (ds:=ds) (by simp;exact ⟨rfl,rfl⟩) (zba (by omega)) (fun d hd=>za6 (by simp [zh7 h n (ht.2 d hd)])) ?_
      exact ⟨by simp [numB,el],rfl⟩
    · have e0:(!((ds.length:Int)==(many:Int)))=true:=by simp;omega
      rw [e0,if_pos (by decide)]
      exact ⟨by simp [numB,el],rfl⟩
  | _=>exact zdk rfl
end
abbrev zdq:List D:=[.str "turn",.str "join",.str "move",.str "put"]
theorem zv0 {k L:Nat}{x:D}{M:Mem} (hx:Th k L x) (hk:k≤60):zb1 .notin x (.tup zdq) M=some (!(zdq.any fun y=>zbp y x)):=by
  have hp:zaw 64 x=true:=(hx.mono (n':=64) (by omega) (Nat.le_refl L)).pure
  have e:zb1 .notin x (.tup zdq) M=((zcn M (.tup zdq)).bind (inL (view M x))).map (!·):=by cases x<;>rfl
  rw [e,hx.view]
  show Option.map _ (inL x zdq)=_
  unfold inL
  rw [hp,show zdq.all (zaw 63)=true by decide +kernel]
  rfl
section
variable {P:Nat->Option Df} (h:HasW P) {M:Mem}{k L:Nat}{d:D}
include h
theorem zv6 (n:Nat) {w p:Nat}{xs:List D} (hl:xs.length≠4 /\ xs.length≠5):zaq P (n+4) 70 [.tup xs,nD w,nD p] M=.ok (.bl false) M:=by
  refine zaz (za2 h.is_deed rfl ?_)
  show okE (zbi _ [some (.tup xs),some (nD w),some (nD p)] M) _
  unfold zbi
  refine zcg (za6 ?_) rfl ⟨rfl,rfl⟩
  have e:zb1 .notin (.int xs.length) (.tup [.int 4,.int 5]) M=some true:=by
    show ((inL (.int xs.length) [.int 4,.int 5]).map (!·))=_
    have e1:zbp (.int 4) (.int xs.length)=false:=by simp [zbp];omega
    have e2:zbp (.int 5) (.int xs.length)=false:=by simp [zbp];omega
    show (some ([D.int 4,D.int 5].any fun y=>zbp y (.int xs.length))).map (!·)=_
    simp [e1,e2]
  simp [zcj,e]
  exact zba (by decide)
theorem zts (n:Nat) {w p:Nat}{x:D}{xs:List D} (hx:Th k L x) (hk:k≤60) (hl:xs.length=3 \/ xs.length=4) (hn:(zdq.any fun y=>zbp y x)=false):zaq P (n+4) 70 [.tup (x::xs),nD w,nD p] M=.ok (.bl false) M:=by
  refine zaz (za2 h.is_deed rfl ?_)
  show okE (zbi _ [some (.tup (x::xs)),some (nD w),some (nD p)] M) _
  unfold zbi
  have e:zb1 .notin (.int (x::xs).length) (.tup [.int 4,.int 5]) M=some false:=by
    show ((inL (.int (x::xs).length) [.int 4,.int 5]).map (!·))=_
    show (some ([D.int 4,D.int 5].any fun y=>zbp y (.int (x::xs).length))).map (!·)=_
    rcases hl with e | e<;>simp [zbp,e]
  have e2:=zv0 (M:=M) hx hk
  rw [hn] at e2
  refine za0 (za6 ?_) (zcg (za6 ?_) rfl ⟨rfl,rfl⟩)
  · simp at e
    simp [zcj,e]
    exact zba (by decide)
  · simp [ixN,e2]
    exact zba (by decide)
theorem dl3 (n:Nat) {w p:Nat}{xs:List D}{a c:D} (hL1:L+1≤100) (i1:zg5 (.tup xs) (.int 1) M=some a) (il:zg5 (.tup xs) (.int (-1)) M=some c) (ha:Th k L a) (hc:Th k L c) :
    (tOr (zb4 (zas (zam 69 (zaq P (n+3)) (zaa (zbb (zaa (zax (zab 0) (gC (.int 1))) zah)) (zaa (gC (.int 1)) (zaa (gC (.int 0)) (zaa (zat false .sub (zab 2) (gC (.int 1))) zah))))))) (zb4 (zas (zam 68 (zaq P (n+3)) (zaa (zax (zab 0) (zfu (gC (.int 1)))) (zaa (gC (.int 1)) (zaa (gC (.int 3)) zah)))))):GT) [some (.tup xs),some (nD w),some (nD p)] M=.ok (!(zbl 0 ((p:Int) - 1) a&&zbl 1 3 c)) M:=by
  have q1:zaq P (n+3) 69 [.tup [a],.int 1,.int 0,.int ((p:Int) - 1)] M=.ok (.bl (numB 1 0 ((p:Int) - 1) (.tup [a]))) M:=zm1 h n (d:=.tup [a]) (k:=k+1) (L:=L+1) (many:=1) (show [a].length≤L+1 /\ ∀ d∈[a],Th k (L+1) d from ⟨by simp,fun d hd=>by rw [List.mem_singleton.mp hd];exact ha.mono (Nat.le_refl k) (Nat.le_succ L)⟩) hL1 0 _
  have q2:=zh7 h (n+1) (M:=M) hc 1 3
  have z1:1≤sz:=zba (by decide)
  refine za6 ?_
  simp [-z1t,i1,il,q1,q2,z1,numB]
  cases zbl 0 ((p:Int) - 1) a<;>cases zbl 1 3 c<;>simp
end
theorem z1j {M:Mem}:zb1 .notin (.str "turn") (.tup zdq) M=some false:=by
  show (inL (.str "turn") zdq).map (!·)=_
  decide +kernel
theorem z1l {M:Mem}:zb1 .notin (.str "join") (.tup zdq) M=some false:=by
  show (inL (.str "join") zdq).map (!·)=_
  decide +kernel
theorem z1k {M:Mem}:zb1 .notin (.str "move") (.tup zdq) M=some false:=by
  show (inL (.str "move") zdq).map (!·)=_
  decide +kernel
theorem nm_put {M:Mem}:zb1 .notin (.str "put") (.tup zdq) M=some false:=by
  show (inL (.str "put") zdq).map (!·)=_
  decide +kernel
theorem ne_bb {M:Mem}{x y:Bool}:zb1 .ne (.bl x) (.bl y) M=some (x != y):=by cases x<;>cases y<;>rfl
theorem in45 {M:Mem}:zb1 .notin (.int 4) (.tup [.int 4,.int 5]) M=some false /\ zb1 .notin (.int 5) (.tup [.int 4,.int 5]) M=some false:=⟨rfl,rfl⟩
section
variable {P:Nat->Option Df} (h:HasW P) {M:Mem}{k L:Nat}{d:D}
include h
theorem ztr (n:Nat) {w p:Nat}{a b c:D} (hL:L+1≤100) (ha:Th k L a) (hb:Th k L b) (hc:Th k L c):zaq P (n+4) 70 [.tup [.str "turn",a,b,c],nD w,nD p] M=.ok (.bl (zg9 w p [a,b,c])) M:=by
  refine zaz (za2 h.is_deed rfl ?_)
  show okE (zbi _ [some (.tup [.str "turn",a,b,c]),some (nD w),some (nD p)] M) _
  unfold zbi
  have z2:2≤sz:=zba (by decide)
  have z4:4≤sz:=zba (by decide)
  have ej:=zcs (x:="turn") (y:="join") (b:=false) (by decide +kernel) M
  have et:=zcs (x:="turn") (y:="turn") (b:=true) (by decide +kernel) M
  have ep:=zcs (x:="turn") (y:="put") (b:=false) (by decide +kernel) M
  have em:=zcs (x:="turn") (y:="move") (b:=false) (by decide +kernel) M
  refine za0 (by kernel_rfl) (za0 (by kernel_rfl) ?_)
  have t3:=dl3 h n (w:=w) (p:=p) (M:=M) (xs:=[.str "turn",a,b,c]) hL rfl rfl ha hc
  cases A:(zbl 0 ((p:Int) - 1) a&&zbl 1 3 c) with
  | false =>
    rw [A] at t3
    refine zcg t3 rfl ⟨?_,rfl⟩
    simp only [zg9]
    rcases Bool.and_eq_false_iff.mp A with q | q<;>simp [q]
  | true =>
    rw [A] at t3
    simp only [Bool.and_eq_true] at A
    refine za0 t3 ?_
    have q:=zm1 h n (M:=M) (many:=w) hb (by omega) 0 ((w:Int) - 1)
    refine zcg (v:=.bl (zg2 w b)) (by kernel_rfl) (zaz (by simp [ixN,q];cases b<;>rfl)) ⟨?_,rfl⟩
    simp [zg9,A.1,A.2]
theorem zv4 (n:Nat) {w p:Nat}{a b c:D} (hL:L+1≤100) (ha:Th k L a) (hb:Th k L b) (hc:Th k L c):zaq P (n+4) 70 [.tup [.str "put",a,b,c],nD w,nD p] M=.ok (.bl (zit w p [a,b,c])) M:=by
  refine zaz (za2 h.is_deed rfl ?_)
  show okE (zbi _ [some (.tup [.str "put",a,b,c]),some (nD w),some (nD p)] M) _
  unfold zbi
  have z2:2≤sz:=zba (by decide)
  have z4:4≤sz:=zba (by decide)
  have ej:=zcs (x:="put") (y:="join") (b:=false) (by decide +kernel) M
  have et:=zcs (x:="put") (y:="turn") (b:=false) (by decide +kernel) M
  have ep:=zcs (x:="put") (y:="put") (b:=true) (by decide +kernel) M
  have em:=zcs (x:="put") (y:="move") (b:=false) (by decide +kernel) M
  refine za0 (by kernel_rfl) (za0 (by kernel_rfl) ?_)
  have t3:=dl3 h n (w:=w) (p:=p) (M:=M) (xs:=[.str "put",a,b,c]) hL rfl rfl ha hc
  cases A:(zbl 0 ((p:Int) - 1) a&&zbl 1 3 c) with
  | false =>
    rw [A] at t3
    refine zcg t3 rfl ⟨?_,rfl⟩
    simp only [zit]
    rcases Bool.and_eq_false_iff.mp A with q | q<;>simp [q]
  | true =>
    rw [A] at t3
    simp only [Bool.and_eq_true] at A
    refine za0 t3 ?_
    have q:=zh7 h (n+1) (M:=M) hb 0 ((w:Int) - 1)
    refine za0 (by kernel_rfl) (zcg (v:=.bl (zbl 0 ((w:Int) - 1) b)) (by kernel_rfl) (zaz (by simp [ixN,q])) ⟨?_,rfl⟩)
    simp [zit,A.1,A.2]
theorem ztt (n:Nat) {w p:Nat}{a b c:D} (hL:L+1≤100) (ha:Th k L a) (hb:Th k L b) (hc:Th k L c):zaq P (n+4) 70 [.tup [.str "move",a,b,c],nD w,nD p] M=.ok (.bl (zgs w p [a,b,c])) M:=by
  refine zaz (za2 h.is_deed rfl ?_)
  show okE (zbi _ [some (.tup [.str "move",a,b,c]),some (nD w),some (nD p)] M) _
  unfold zbi
  have z2:2≤sz:=zba (by decide)
  have z4:4≤sz:=zba (by decide)
  have ej:=zcs (x:="move") (y:="join") (b:=false) (by decide +kernel) M
  have et:=zcs (x:="move") (y:="turn") (b:=false) (by decide +kernel) M
  have ep:=zcs (x:="move") (y:="put") (b:=false) (by decide +kernel) M
  have em:=zcs (x:="move") (y:="move") (b:=true) (by decide +kernel) M
  refine za0 (by kernel_rfl) (za0 (by kernel_rfl) ?_)
  have t3:=dl3 h n (w:=w) (p:=p) (M:=M) (xs:=[.str "move",a,b,c]) hL rfl rfl ha hc
  cases A:(zbl 0 ((p:Int) - 1) a&&zbl 1 3 c) with
  | false =>
    rw [A] at t3
    refine zcg t3 rfl ⟨?_,rfl⟩
    simp only [zgs]
    rcases Bool.and_eq_false_iff.mp A with q | q<;>simp [q]
  | true =>
    rw [A] at t3
    simp only [Bool.and_eq_true] at A
    refine za0 t3 ?_
    have q:=zh7 h (n+1) (M:=M) hb 0 ((p:Int) - 1)
    refine za0 (by kernel_rfl) (za0 (by kernel_rfl) ?_)
    cases B:zbl 0 ((p:Int) - 1) b with
    | false =>
      rw [B] at q
      exact zcg (za6 (by simp [ixN,q])) rfl ⟨by simp [zgs,B],rfl⟩
    | true =>
      rw [B] at q
      refine za0 (za6 (by simp [ixN,q])) (zcg (by kernel_rfl) rfl ⟨?_,rfl⟩)
      simp [zgs,A.1,A.2,B]
theorem ztu (n:Nat) {w p:Nat}{a b e c:D} (hL:L+1≤100) (ha:Th k L a) (hb:Th k L b) (he:Th k L e) (hc:Th k L c):zaq P (n+4) 70 [.tup [.str "join",a,b,e,c],nD w,nD p] M=.ok (.bl (zga w p [a,b,e,c])) M:=by
  refine zaz (za2 h.is_deed rfl ?_)
  show okE (zbi _ [some (.tup [.str "join",a,b,e,c]),some (nD w),some (nD p)] M) _
  unfold zbi
  have z2:2≤sz:=zba (by decide)
  have z4:4≤sz:=zba (by decide)
  have ej:=zcs (x:="join") (y:="join") (b:=true) (by decide +kernel) M
  have et:=zcs (x:="join") (y:="turn") (b:=false) (by decide +kernel) M
  have ep:=zcs (x:="join") (y:="put") (b:=false) (by decide +kernel) M
  have em:=zcs (x:="join") (y:="move") (b:=false) (by decide +kernel) M
  refine za0 (by kernel_rfl) (za0 (by kernel_rfl) ?_)
  have t3:=dl3 h n (w:=w) (p:=p) (M:=M) (xs:=[.str "join",a,b,e,c]) hL rfl rfl ha hc
  cases A:(zbl 0 ((p:Int) - 1) a&&zbl 1 3 c) with
  | false =>
    rw [A] at t3
    refine zcg t3 rfl ⟨?_,rfl⟩
    simp only [zga]
    rcases Bool.and_eq_false_iff.mp A with q | q<;>simp [q]
  | true =>
    rw [A] at t3
    simp only [Bool.and_eq_true] at A
    refine za0 t3 ?_
    have q:=zh7 h (n+1) (M:=M) hb 0 ((p:Int) - 1)
    refine za0 (by kernel_rfl) (za0 (by kernel_rfl) ?_)
    cases B:zbl 0 ((p:Int) - 1) b with
    | false =>
      rw [B] at q
      exact zcg (za6 (by simp [ixN,q])) rfl ⟨by simp [zga,B],rfl⟩
    | true =>
      rw [B] at q
      refine za0 (za6 (by simp [ixN,q])) (za0 (by kernel_rfl) ?_)
      have e0:zga w p [a,b,e,c]=zht w e:=by simp [zga,A.1,A.2,B]
      rw [e0]
      cases e with
      | fn j=>exact absurd he (by cases k<;>exact id)
      | exc y p=>exact absurd he (by cases k<;>exact id)
      | tup ds =>
        have ht:=he.tup
        by_cases el:ds.length=w
        · refine za0 (za6 (by simp [ixN,zcj,el])) ?_
          simp only [zbn,zd2]
          refine znf (zg2 w) (ds:=ds) (by simp [ixN];exact ⟨rfl,rfl⟩) (zba (by omega)) (fun d hd=>za6 (by
            have q:=zm1 h n (M:=M) (many:=w) (ht.2 d hd) (by omega) 0 ((w:Int) - 1)
            have:numB w 0 ((w:Int) - 1) d=zg2 w d:=by cases d<;>rfl
            rw [this] at q
            simp [q])) ?_
          exact ⟨by simp [zht,el],rfl⟩
        · have:¬ ((ds.length:Int)=(w:Int)):=by omega
          exact zcg (za6 (by simp [ixN,zcj,this])) rfl ⟨by simp [zht,el],rfl⟩
      | _=>exact zcg rfl rfl ⟨rfl,rfl⟩
omit h in
theorem zvl {w p:Nat}{s:Str}{ds:List D} (hl:ds.length≠3 /\ ds.length≠4):zc6 w p s ds=false:=by
  have t:zg9 w p ds=false:=by
    match ds,hl with
    | [],_=>rfl
    | [_],_=>rfl
    | [_,_],_=>rfl
    | [_,_,_],hl=>simp at hl
    | _::_::_::_::_,_=>rfl
  have j:zga w p ds=false:=by
    match ds,hl with
    | [],_=>rfl
    | [_],_=>rfl
    | [_,_],_=>rfl
    | [_,_,_],_=>rfl
    | [_,_,_,_],hl=>simp at hl
    | _::_::_::_::_::_,_=>rfl
  have m:zgs w p ds=false:=by
    match ds,hl with
    | [],_=>rfl
    | [_],_=>rfl
    | [_,_],_=>rfl
    | [_,_,_],hl=>simp at hl
    | _::_::_::_::_,_=>rfl
  have u:zit w p ds=false:=by
    match ds,hl with
    | [],_=>rfl
    | [_],_=>rfl
    | [_,_],_=>rfl
    | [_,_,_],hl=>simp at hl
    | _::_::_::_::_,_=>rfl
  unfold zc6
  rw [t,j,m,u]
  split<;>first | rfl | (split<;>first | rfl | (split<;>first | rfl | (split<;>rfl)))
theorem zii (n:Nat) {w p:Nat}{s:Str}{xs:List D}{bj:Bool} (hs:zb1 .notin (.str s) (.tup zdq) M=some false) (ej:zb1 .eq (.str s) (.str "join") M=some bj) (hl:xs.length=3 /\ bj=true \/ xs.length=4 /\ bj=false):zaq P (n+4) 70 [.tup (.str s::xs),nD w,nD p] M=.ok (.bl false) M:=by
  refine zaz (za2 h.is_deed rfl ?_)
  show okE (zbi _ [some (.tup (.str s::xs)),some (nD w),some (nD p)] M) _
  unfold zbi
  have z2:2≤sz:=zba (by decide)
  have z4:4≤sz:=zba (by decide)
  rcases hl with ⟨e,rfl⟩ | ⟨e,rfl⟩
  · refine za0 (za6 (by simp [zcj,e,in45.1,z2])) (zcg (za6 ?_) rfl ⟨rfl,rfl⟩)
    simp [ixN,hs,z4,ej,ne_bb,e]
  · refine za0 (za6 (by simp [zcj,e,in45.2,z2])) (zcg (za6 ?_) rfl ⟨rfl,rfl⟩)
    simp [ixN,hs,z4,ej,ne_bb,e]
theorem zv5 (n:Nat) {w p:Nat} (hi:zcj .tuple d=some false):zaq P (n+4) 70 [d,nD w,nD p] M=.ok (.bl false) M:=by
  refine zaz (za2 h.is_deed rfl ?_)
  show okE (zbi _ [some d,some (nD w),some (nD p)] M) _
  unfold zbi
  exact zcg (za6 (by simp [hi])) rfl ⟨rfl,rfl⟩
theorem zu5 (n:Nat) {w p:Nat} (hd:Th k L d) (hk:k≤60) (hL:L+1≤100):zaq P (n+4) 70 [d,nD w,nD p] M=.ok (.bl (zgb w p d)) M:=by
  cases d with
  | fn j=>exact absurd hd (by cases k<;>exact id)
  | exc y p=>exact absurd hd (by cases k<;>exact id)
  | tup xs =>
    have ht:=hd.tup
    by_cases hl:xs.length≠4 /\ xs.length≠5
    · rw [zv6 h n hl]
      cases xs with
      | nil=>rfl
      | cons x ds =>
        simp at hl
        cases x with
        | str s=>show _=Res.ok (D.bl (zc6 w p s ds)) M;rw [zvl ⟨by omega,by omega⟩]
        | _=>rfl
    · have hl:xs.length=4 \/ xs.length=5:=by omega
      cases xs with
      | nil=>simp at hl
      | cons x ds =>
        have hx:=ht.2 x List.mem_cons_self
        have hds:∀ d∈ds,Th k L d:=fun d hd=>ht.2 d (List.mem_cons_of_mem _ hd)
        have hl:ds.length=3 \/ ds.length=4:=by simp at hl;omega
        by_cases hn:(zdq.any fun y=>zbp y x)=false
        · rw [zts h n hx hk hl hn]
          cases x with
          | str s =>
            show _=Res.ok (D.bl (zc6 w p s ds)) M
            have q:∀ z:Str,D.str z∈zdq->¬ s=z:=fun z hz e=>by
              subst e
              rw [List.any_eq_false] at hn
              exact hn _ hz (by simp [zbp])
            rw [zvm (q _ (by simp)) (q _ (by simp)) (q _ (by simp)) (q _ (by simp))]
          | _=>rfl
        · have hn:(zdq.any fun y=>zbp y x)=true:=(Bool.not_eq_false _).mp hn
          obtain ⟨z,hz,e⟩:=List.any_eq_true.mp hn
          have hx:∃ s:Str,x=.str s /\ D.str s∈zdq:=by
            simp only [zdq,List.mem_cons,List.not_mem_nil,or_false] at hz
            cases x<;>rcases hz with rfl | rfl | rfl | rfl<;>first | (simp [zbp] at e;subst e;exact ⟨_,rfl,by simp⟩) | simp [zbp] at e
          obtain ⟨s,rfl,hs⟩:=hx
          show _=Res.ok (D.bl (zc6 w p s ds)) M
          simp only [zdq,List.mem_cons,List.not_mem_nil,or_false,D.str.injEq] at hs
          match ds,hds,hl with
          | [a, b, c], hds, _ =>
            simp only [List.mem_cons,List.not_mem_nil,or_false,forall_eq_or_imp,forall_eq] at hds
            rcases hs with rfl | rfl | rfl | rfl
            · rw [zl8];exact ztr h n hL hds.1 hds.2.1 hds.2.2
            · rw [zl7];exact zii h n z1l (zcs (by decide +kernel) M) (.inl ⟨rfl,rfl⟩)
            · rw [zl6];exact ztt h n hL hds.1 hds.2.1 hds.2.2
            · rw [zl5];exact zv4 h n hL hds.1 hds.2.1 hds.2.2
          | [a, b, e, c], hds, _ =>
            simp only [List.mem_cons,List.not_mem_nil,or_false,forall_eq_or_imp,forall_eq] at hds
            rcases hs with rfl | rfl | rfl | rfl
            · rw [zl8];exact zii h n z1j (zcs (by decide +kernel) M) (.inr ⟨rfl,rfl⟩)
            · rw [zl7];exact ztu h n hL hds.1 hds.2.1 hds.2.2.1 hds.2.2.2
            · rw [zl6];exact zii h n z1k (zcs (by decide +kernel) M) (.inr ⟨rfl,rfl⟩)
            · rw [zl5];exact zii h n nm_put (zcs (by decide +kernel) M) (.inr ⟨rfl,rfl⟩)
          | [],_,hl=>simp at hl
          | [_],_,hl=>simp at hl
          | [_,_],_,hl=>simp at hl
          | _::_::_::_::_::_,_,hl=>simp at hl
  | _=>exact zv5 h n rfl
theorem zu4 (n:Nat) (hd:Th k L d) (hk:k≤60) (hL:L+1≤100):zaq P (n+5) 71 [d] M=.ok (.bl (zd4 d)) M:=by
  refine zaz (za2 h.is_machine rfl ?_)
  show okE (zee _ [some d] M) _
  unfold zee
  by_cases hn:zfs 3 d=false
  · rw [zqu hn]
    cases d with
    | fn j=>exact absurd hd (by cases k<;>exact id)
    | exc y p=>exact absurd hd (by cases k<;>exact id)
    | tup xs =>
      have:¬ ((xs.length:Int)=3):=by simp [zfs] at hn;omega
      exact zcg (za6 (by simp [zcj,this])) rfl ⟨rfl,rfl⟩
    | _=>exact zcg rfl rfl ⟨rfl,rfl⟩
  · match d,hd,hn with
    | .tup [a, b, c], hd, _ =>
      have ht:=hd.tup.2
      simp only [List.mem_cons,List.not_mem_nil,or_false,forall_eq_or_imp,forall_eq] at ht
      have b1:=zh7 h (n+2) (M:=M) ht.1 2 4
      have b2:=zh7 h (n+2) (M:=M) ht.2.1 1 2
      show okE _ (zhn fun x M'=>x=.bl (zbl 2 4 a&&(zbl 1 2 b&&(zfx c&&(zqy c).all (zgb (ze1 a) (ze1 b))))) /\ M'=M)
      cases c1:zbl 2 4 a with
      | false =>
        rw [c1] at b1
        exact zcg (za6 (by simp [zcj,ixN,b1])) rfl ⟨rfl,rfl⟩
      | true =>
        rw [c1] at b1
        refine za0 (za6 (by simp [zcj,ixN,b1])) ?_
        cases c2:zbl 1 2 b with
        | false =>
          rw [c2] at b2
          exact zcg (za6 (by simp [ixN,b2])) rfl ⟨rfl,rfl⟩
        | true =>
          rw [c2] at b2
          obtain ⟨ea,_,_⟩:=zhz c1 (by decide)
          obtain ⟨eb,_,_⟩:=zhz c2 (by decide)
          by_cases hcc:∃ ds,c=.tup ds
          · obtain ⟨ds,rfl⟩:=hcc
            have hc:=ht.2.2.tup
            cases lb:zfx (.tup ds) with
            | false =>
              refine zcg (za6 ?_) rfl ⟨rfl,rfl⟩
              simp [zfx] at lb
              simp [ixN,b2,zcj]
              omega
            | true =>
              refine za0 (za6 ?_) ?_
              · simp [zfx] at lb
                simp [ixN,b2,zcj]
                omega
              · simp only [zbn,zd2]
                refine znf (zgb (ze1 a) (ze1 b)) (ds:=ds) (by simp [ixN];exact ⟨rfl,rfl⟩) (zba (by omega)) (fun d hd=>za6 (by
                  have q:=zu5 h n (w:=ze1 a) (p:=ze1 b) (M:=M) (hc.2 d hd) hk hL
                  rw [<- ea,<- eb] at q
                  simp [ixN,q])) ?_
                exact ⟨by simp [zqy],rfl⟩
          · have e1:zfx c=false:=by cases c<;>first | rfl | exact absurd ⟨_,rfl⟩ hcc
            have e2:=zq1 ht.2.2 (t:=.tuple) (.inr ⟨hcc,rfl⟩)
            exact zcg (za6 (by simp [ixN,b2,e2])) rfl ⟨by simp [e1],rfl⟩
    | .tup [],_,hn=>exact absurd rfl hn
    | .tup [_],_,hn=>exact absurd rfl hn
    | .tup [_,_],_,hn=>exact absurd rfl hn
    | .tup (_::_::_::_::r),_,hn=>exact absurd (by simp [zfs]) hn
    | .non,_,hn=>exact absurd rfl hn
    | .bl _,_,hn=>exact absurd rfl hn
    | .int _,_,hn=>exact absurd rfl hn
    | .str _,_,hn=>exact absurd rfl hn
    | .lst _,_,hn=>exact absurd rfl hn
    | .frz _,_,hn=>exact absurd rfl hn
    | .cell _,_,hn=>exact absurd rfl hn
    | .fn _,_,hn=>exact absurd rfl hn
    | .exc _ _,_,hn=>exact absurd rfl hn
end
end LD
namespace LD
open PySem
structure HasT (P:Nat->Option Df):Prop where
  but:P 64=some ⟨2,4,zew⟩
  any:P 65=some ⟨1,1,zex⟩
  signed:P 66=some ⟨2,3,zfp⟩
  bent:P 72=some ⟨3,9,ziy⟩
section
variable {ρ:Env}{M:Mem}{a b lo hi:GE}{k:D->Mem->Prop}{kw:Walk->Mem->Prop}
@[simp] theorem w_seqS:okE (zmn a ρ M) kw↔okE (a ρ M) fun x M=>∃ z,x=.str z /\ kw (fun _=>some (signs z)) M:=by
  simp only [zmn,zbk];refine iff_of_eq ?_;congr 1;funext x M;cases x<;>simp
@[simp] theorem e_notT:okE (ztz a b ρ M) k↔okE (a ρ M) fun x M=>okE (b ρ M) fun y M=>∃ v,x=.bl v /\ y=.bl true /\ k (.bl (!v)) M:=by
  simp only [ztz,zbk];refine iff_of_eq ?_;congr 1;funext x M;congr 1;funext y M
  cases x<;>cases y<;>simp
  rename_i v w;cases w<;>simp
theorem e_slcS {hl hh:Bool}:okE (zks hl hh a lo hi ρ M) k↔okE (a ρ M) fun x M=>okE (lo ρ M) fun l M=>okE (hi ρ M) fun h M=>zc7 hl l=true /\ zc7 hh h=true /\ ∃ z i j,x=.str z /\ z.cps.size≤sz /\ sIx z.cps.size 0 l=some i /\ sIx z.cps.size z.cps.size h=some j /\ k (.str (zg6 z i j)) M:=by
  simp only [zks,zbk]
  refine iff_of_eq ?_
  congr 1;funext x M;congr 1;funext l M;congr 1;funext h M
  cases zc7 hl l<;>cases zc7 hh h<;>simp
  cases x<;>simp
  rename_i z
  by_cases hz:z.cps.size≤sz
  · simp [hz]
    cases sIx z.cps.size 0 l<;>cases sIx z.cps.size z.cps.size h<;>simp
  · simp [hz]
end
def zgd (L:Nat) (z:Str):Prop:=z.cps.size≤L /\ z.cps.all (· < 0x110000)=true
theorem zgd.th {n L:Nat}{z:Str} (h:zgd L z):Th n L (.str z):=by cases n<;>exact h
theorem zwj {L:Nat}{z:Str}{i j:Nat} (h:zgd L z):zgd (j - i) (zg6 z i j) /\ (zg6 z i j).cps.size≤z.cps.size - i:=by
  refine ⟨⟨?_,?_⟩,?_⟩
  · simp [zg6,cut];omega
  · have h2:=h.2
    rw [<- Array.all_toList,List.all_eq_true] at h2
    simp only [zg6]
    rw [List.all_toArray,List.all_eq_true]
    intro x hx
    exact h2 x (List.mem_of_mem_drop (List.mem_of_mem_take hx))
  · simp [zg6,cut];omega
theorem add_str {m:Bool}{x y:Str}{M:Mem}{k:D->Mem->Prop} (h:x.cps.size+y.cps.size≤sz):okE (zfj m .add (.str x) (.str y) M) k↔k (.str ⟨x.cps++y.cps⟩) M:=by simp [zfj,h]
abbrev sgA:Str:=" !\"#$&'()*+,-./0123456789:;<=>?@ABCDEFGHIJKLMNOPQRSTUVWXYZ[\\]^_`"
abbrev sgB:Str:="abcdefghijklmnopqrstuvwxyz{|}~\t\n"
def allSigns:Str:=⟨sgA.cps++sgB.cps⟩
theorem z2m {M:Mem}{k:D->Mem->Prop}:okE (zfj false .add (.str sgA) (.str sgB) M) k↔k (.str allSigns) M:=add_str (Nat.le_trans (by decide +kernel) (zba (n:=200) (by decide)))
theorem zhe:(0 < (signs allSigns).length /\ (signs allSigns).length≤200) /\ allSigns.cps.size≤200 /\ ((signs allSigns).all fun d=>match d with | .str z=>!zh4 z ""&&z.cps.size==1&&z.cps.all (· < 0x110000) | _=>false)=true:=by decide +kernel
theorem sign_is {d:D} (h:d∈signs allSigns):∃ z:Str,d=.str z /\ zh4 z ""=false /\ zgd 1 z:=by
  have q:=List.all_eq_true.mp zhe.2.2 d h
  cases d with
  | str z =>
    simp only [Bool.and_eq_true,Bool.not_eq_true',beq_iff_eq] at q
    exact ⟨z,rfl,q.1.1,by rw [q.1.2];exact Nat.le_refl 1,q.2⟩
  | _=>cases q
section
variable {P:Nat->Option Df} (hp_:zju P) (ht_:HasT P) {M:Mem}
include hp_ ht_
theorem sp_any (n:Nat) {p B:Nat} (hp:zbf M p B) (hB:B≤900000):okE (zaq P (n+4) 65 [.cell p] M) fun d M'=>∃ z:Str,d=.str z /\ zgd 1 z /\ zbf M' p (B+1) /\ zby p M M':=by
  refine za2 ht_.any rfl ?_
  show okE (zex _ [some (.cell p)] M) _
  simp only [zex,zbn,zd2,zdr,zcm,zc1,zct,e_c,List.getElem?_cons_zero,Option.getD_some,Option.some.injEq,exists_eq_left']
  refine za2 ht_.but rfl ?_
  show okE (zew _ [some (.cell p),some (.str ""),none,none] M) _
  simp only [zew,zbn,zh9,zec,zcq,zd2,e_c,zim,zct,List.getElem?_cons_zero,List.getElem?_cons_succ,Option.getD_some,Option.some.injEq,exists_eq_left',List.set_cons_zero,List.set_cons_succ]
  refine z2m.mpr ?_
  simp only [zq7,w_seqS,zct,List.getElem?_cons_zero,List.getElem?_cons_succ,Option.getD_some,Option.some.injEq,exists_eq_left',D.str.injEq]
  refine zoh (fun _=>true) (fun d=>d) (ds:=signs allSigns) (zba (by have:=zhe.1.2;omega)) rfl (fun d hd=>?_) ?_
  · obtain ⟨z,rfl,hz,_⟩:=sign_is hd
    refine ⟨_,rfl,za6 ?_,fun _=>rfl⟩
    simp
    show some (!zh4 z "")=_
    rw [hz];rfl
  have ef:(List.filter (fun _=>true) (signs allSigns)).map (fun d=>d)=signs allSigns:=by simp
  rw [ef]
  refine zfr.mpr ⟨zba (by have:=zhe.1.2;omega),?_⟩
  simp only [zcq,zbn,zd2,zmq,zdr,zcm,zc1,zjp,zct,List.getElem?_cons_zero,List.getElem?_cons_succ,Option.getD_some,Option.some.injEq,exists_eq_left',List.set_cons_zero,List.set_cons_succ,z1p]
  refine tk hp_ n hp (by omega) zhe.1.1 (by have:=zhe.1.2;omega) fun v M' hv q kk=>?_
  obtain ⟨z,e,_,hz⟩:=sign_is (List.getElem_mem hv)
  refine ⟨.str z,?_,z,rfl,hz,q,kk⟩
  show (ixN (signs allSigns).length (v:Int)).bind (fun j=>(signs allSigns)[j]?)=_
  rw [zhh hv]
  simp [hv,e]
omit hp_ ht_ in
theorem zwn {A B:Nat}{x y:Str} (hx:zgd A x) (hy:zgd B y):zgd (x.cps.size+y.cps.size) ⟨x.cps++y.cps⟩:=by
  refine ⟨by simp,?_⟩
  have h1:=hx.2
  have h2:=hy.2
  simp only [Array.all_append,h1,h2,Bool.and_self]
theorem zu1 (n:Nat) {p B L:Nat}{z:Str} (hz:zgd L z) (hL:L≤100) (hp:zbf M p B) (hB:B≤800000):okE (zaq P (n+5) 66 [.cell p,.str z] M) fun d M'=>∃ z':Str,d=.str z' /\ zgd (L+1) z' /\ zbf M' p (B+3) /\ zby p M M':=by
  refine za2 ht_.signed rfl ?_
  show okE (zfp _ [some (.cell p),some (.str z),none] M) _
  have zl:=hz.1
  have zsz:z.cps.size≤sz:=zba (by omega)
  simp only [zfp,zbn,zh9,zec,zcq,zd2,zdr,zcm,zc1,e_c,zim,zct,zjp,e_slcS,List.getElem?_cons_zero,List.getElem?_cons_succ,Option.getD_some,Option.some.injEq,exists_eq_left',List.set_cons_zero,List.set_cons_succ]
  have el:∀ {k:D->Mem->Prop},k (.int z.cps.size) M->okE (ze5 .len [.str z] M) k:=fun hk=>by
    show okE (if z.cps.size≤sz then Res.ok (D.int z.cps.size) M else .bad) _
    rw [if_pos zsz];exact hk
  refine el ?_
  rw [zgx]
  rw [show ((z.cps.size:Int)+1)=((z.cps.size+1:Nat):Int) by omega]
  refine tk hp_ (n+2) hp (by omega) (by omega) (by omega) fun at_ M1 hat q1 k1=>?_
  refine ⟨rfl,rfl,z,0,at_,rfl,zsz,rfl,?_,?_⟩
  · show some (if (at_:Int) < 0 then _ else min (at_:Int).toNat z.cps.size)=_
    rw [if_neg (by omega)]
    congr 1
    simp;omega
  refine zbu (sp_any hp_ ht_ (M:=M1) (B:=B+1) (p:=p) n q1 (by omega)) fun d M2 ⟨y,ed,hy,q2,k2⟩=>?_
  subst ed
  have c1:=zwj (i:=0) (j:=at_) hz
  have hs1:=zwn c1.1 hy
  have s1:=c1.1.1
  have s2:=hy.1
  have w1:(zg6 z 0 at_).cps.size+y.cps.size≤sz:=zba (by omega)
  refine (add_str w1).mpr ?_
  refine tk hp_ (n+2) (many:=2) q2 (by omega) (by decide) (by decide) fun v M3 hv q3 k3=>?_
  rw [zgx]
  rw [show ((at_:Int)+(v:Int))=((at_+v:Nat):Int) by omega]
  refine ⟨rfl,rfl,z,min (at_+v) z.cps.size,z.cps.size,rfl,zsz,?_,rfl,?_⟩
  · show some (if ((at_+v:Nat):Int) < 0 then _ else min ((at_+v:Nat):Int).toNat z.cps.size)=_
    rw [if_neg (by omega)]
    congr 1
  have c2:=zwj (i:=min (at_+v) z.cps.size) (j:=z.cps.size) hz
  have hs2:=zwn hs1 c2.1
  have s3:=c2.2
  have s4:=hs1.1
  simp only at s4
  have w2:((zg6 z 0 at_).cps++y.cps).size+(zg6 z (min (at_+v) z.cps.size) z.cps.size).cps.size≤sz:=zba (by simp only [Array.size_append] at s4 ⊢;omega)
  refine (add_str w2).mpr ?_
  refine ⟨_,rfl,⟨?_,hs2.2⟩,q3,(k1.trans k2).trans k3⟩
  have:=hs2.1
  simp only [Array.size_append] at this ⊢
  omega
end
def zf8:List D:=[.non,.bl true,.bl false,.str "",.str "turn",.str "join",.str "move",.str "put",.str "Turn",.tup [],.lst [],.int (10 ^ 20),.int (-1),.int 0,.int 1,.int 4,.tup [.int 0],.lst [.int 0],.str "0",.int 7]
theorem zvy {x:D} (h:x∈zf8):Th 1 4 x:=by
  have st:∀ z:Str,(z.cps.size≤4&&z.cps.all (· < 0x110000))=true->Th 1 4 (.str z):=fun z hz=>by
    simp only [Bool.and_eq_true,decide_eq_true_eq] at hz
    exact hz
  simp only [zf8,List.mem_cons,List.not_mem_nil,or_false] at h
  rcases h with rfl | rfl | rfl | rfl | rfl | rfl | rfl | rfl | rfl | rfl | rfl | rfl | rfl | rfl | rfl | rfl | rfl | rfl | rfl | rfl
  all_goals first
    | trivial
    | exact st _ (by decide +kernel)
    | exact ⟨by decide,fun d hd=>absurd hd List.not_mem_nil⟩
    | exact ⟨by decide,fun d hd=>by rw [List.mem_singleton.mp hd];trivial⟩
theorem zsd {lo hi:D}{hl hh:Bool}{xs:List D}{M:Mem}{k:D->Mem->Prop} (h1:zc7 hl lo=true) (h2:zc7 hh hi=true) (hk:∀ i j,k (.tup (cut xs i j)) M):okE (zg4 false (.tup xs) lo hi M) k:=by
  have q:∀ {n d:Nat}{b:Bool}{x:D},zc7 b x=true->∃ i,sIx n d x=some i:=fun {n d b x} h=>by
    cases b<;>cases x<;>first | exact ⟨_,rfl⟩ | cases h
  obtain ⟨i,e1⟩:=q (n:=xs.length) (d:=0) h1
  obtain ⟨j,e2⟩:=q (n:=xs.length) (d:=xs.length) h2
  show okE (match sIx xs.length 0 lo,sIx xs.length xs.length hi with | some l,some h=>Res.ok (D.tup (cut xs l h)) M | _,_=>.bad) k
  rw [e1,e2]
  exact hk i j
theorem zhy {xs:List D}{i j:Nat}:(cut xs i j).length≤xs.length /\ (cut xs i j).length≤j /\ ∀ d∈cut xs i j,d∈xs:=by
  refine ⟨?_,?_,fun d hd=>List.mem_of_mem_drop (List.mem_of_mem_take hd)⟩
  · unfold cut;rw [List.length_take,List.length_drop];omega
  · unfold cut;rw [List.length_take];omega
theorem slc_1 {xs:List D}{M:Mem}{k:D->Mem->Prop} (hk:∀ ys:List D,ys.length≤1->(∀ d∈ys,d∈xs)->k (.tup ys) M):okE (zg4 false (.tup xs) .non (.int 1) M) k:=by
  show okE (Res.ok (D.tup (cut xs 0 (min 1 xs.length))) M) k
  exact hk _ (Nat.le_trans zhy.2.1 (by omega)) zhy.2.2
theorem slt_to {xs:List D}{a:Nat}{M:Mem}{k:D->Mem->Prop} (ha:a < xs.length) (hk:k (.tup (xs.take a)) M):okE (zg4 false (.tup xs) .non (nD a) M) k:=by
  show okE (Res.ok (D.tup (cut xs 0 (if (a:Int) < 0 then _ else min (a:Int).toNat xs.length))) M) k
  rw [if_neg (by omega)]
  have:cut xs 0 (min (a:Int).toNat xs.length)=xs.take a:=by
    unfold cut
    rw [show min (a:Int).toNat xs.length - 0=a by simp;omega,List.drop_zero]
  rw [this];exact hk
theorem zxr {xs:List D}{a:Nat}{M:Mem}{k:D->Mem->Prop} (ha:a < xs.length) (hk:k (.tup (xs.drop (a+1))) M):okE (zg4 false (.tup xs) (.int ((a:Int)+1)) .non M) k:=by
  show okE (Res.ok (D.tup (cut xs (if (a:Int)+1 < 0 then _ else min ((a:Int)+1).toNat xs.length) xs.length)) M) k
  rw [if_neg (by omega)]
  have:cut xs (min ((a:Int)+1).toNat xs.length) xs.length=xs.drop (a+1):=by
    unfold cut
    rw [show min ((a:Int)+1).toNat xs.length=a+1 by omega,List.take_of_length_le (by simp)]
  rw [this];exact hk
theorem Th.tup_of {k L:Nat}{xs:List D} (hl:xs.length≤L) (h:∀ d∈xs,Th k L d):Th (k+1) L (.tup xs):=⟨hl,h⟩
theorem Th.lst_of {k L:Nat}{xs:List D} (hl:xs.length≤L) (h:∀ d∈xs,Th k L d):Th (k+1) L (.lst xs):=⟨hl,h⟩
theorem zqz {t:GT}{A rest:GS}{ρ:Env}{M:Mem}{k:Fl->Mem->Prop} (ht:t ρ M=.ok true M) (h:okE (A ρ M) (zkm rest k)):okE (zae (za4 t A zai) rest ρ M) k:=by
  simp only [zbn,zi5]
  rw [ht]
  exact h
def zlk (c:Call):GS:=(zae (za4 (zg3 (zas (zce .str (zab 1))) (zas (za8 .lt (zab 3) (gC (.int 3))))) (zae (zar (zam 66 c (zaa (zab 0) (zaa (zab 1) (zah))))) (zai)) (zai)) (zae (zar (zax (zab 7) (zab 4))) (zai)))
theorem zpf {xs:List D}{v:Nat}{M:Mem} (h:v < xs.length):zg5 (.lst xs) (nD v) M=some xs[v]:=by
  show (ixN xs.length (v:Int)).bind (fun j=>xs[j]?)=_
  rw [zhh h]
  simp [h]
section
variable {P:Nat->Option Df} (hp_:zju P) (ht_:HasT P) (hw_:HasW P) {M:Mem}
include hp_ ht_ hw_
theorem zwp (n:Nat) {k L p B kind pick:Nat}{d:D}{x2 x5 x6 x8:Option D} (hd:Th k L d) (hk:k≤50) (h6:6≤L) (hL:L≤50) (hp:zbf M p B) (hB:B≤800000) (hpk:pick < 20) :
    okE (zlk (zaq P (n+5)) [some (.cell p),some d,x2,some (nD kind),some (nD pick),x5,x6,some (.lst zf8),x8] M) (zhn fun d' M'=>Th (k+1) (L+1) d' /\ zbf M' p (B+3) /\ zby p M M'):=by
  have fin:okE (zae (zar (zax (zab 7) (zab 4))) zai [some (.cell p),some d,x2,some (nD kind),some (nD pick),x5,x6,some (.lst zf8),x8] M) (zhn fun d' M'=>Th (k+1) (L+1) d' /\ zbf M' p (B+3) /\ zby p M M'):=by
    have hl:pick < zf8.length:=hpk
    exact zsq (v:=zf8[pick]) (zaz (by simp [-zsn,zpf hl])) ⟨(zvy (List.getElem_mem hl)).mono (by omega) (by omega),hp.mono (by omega),.refl⟩
  unfold zlk
  cases d with
  | fn j=>exact absurd hd (by cases k<;>exact id)
  | exc y p=>exact absurd hd (by cases k<;>exact id)
  | str z =>
    have hz:zgd L z:=by cases k<;>exact hd
    by_cases c:(kind:Int) < 3
    · simp only [zbn,zi5,t_and,zs0,zq6,zct,zpi,e_c,List.getElem?_cons_zero,List.getElem?_cons_succ,Option.getD_some,Option.some.injEq,exists_eq_left',zd2,zdr,zcm,zc1]
      refine ⟨true,rfl,true,rfl,?_⟩
      rw [if_pos rfl]
      refine ⟨_,rfl,_,rfl,?_⟩
      rw [decide_eq_true c,if_pos rfl]
      exact zbu (zu1 hp_ ht_ n hz (by omega) hp hB) fun d' M' ⟨z',e,h1,h2,h3⟩=>⟨by rw [e];exact h1.th.mono (Nat.le_refl _) (Nat.le_refl _),h2,h3⟩
    · refine za0 (za6 ?_) fin
      simp [zcj]
      omega
  | _=>exact za0 rfl fin
omit hp_ ht_ hw_ in
theorem zvx {k:Fl->Mem->Prop}{rest:GS}{M:Mem}{x0 x1 x2 x3 x4 x5 x6 x7 x8:Option D} (hk:okE (rest [x0,x1,x2,x3,x4,x5,x6,some (.lst zf8),x8] M) k) :
    okE (zae (zav (.one 7) (zbq false (zaa (gC .non) (zaa (gC (.bl true)) (zaa (gC (.bl false)) (zaa (gC (.str "")) (zaa (gC (.str "turn")) (zaa (gC (.str "join")) (zaa (gC (.str "move")) (zaa (gC (.str "put")) (zaa (gC (.str "Turn")) (zaa (zbb (zah)) (zaa (zbq false (zah)) (zaa (zat false .pow (gC (.int 10)) (gC (.int 20))) (zaa (zfu (gC (.int 1))) (zaa (gC (.int 0)) (zah))))))))))))))))) (zae (zav (.one 7) (zat false .add (zab 7) (zbq false (zaa (gC (.int 1)) (zaa (gC (.int 4)) (zaa (zbb (zaa (gC (.int 0)) (zah))) (zaa (zbq false (zaa (gC (.int 0)) (zah))) (zaa (gC (.str "0")) (zaa (gC (.int 7)) (zah)))))))))) rest) [x0,x1,x2,x3,x4,x5,x6,x7,x8] M) k:=by
  simp only [zbn,zec]
  have e:((zbq false (zaa (gC .non) (zaa (gC (.bl true)) (zaa (gC (.bl false)) (zaa (gC (.str "")) (zaa (gC (.str "turn")) (zaa (gC (.str "join")) (zaa (gC (.str "move")) (zaa (gC (.str "put")) (zaa (gC (.str "Turn")) (zaa (zbb (zah)) (zaa (zbq false (zah)) (zaa (zat false .pow (gC (.int 10)) (gC (.int 20))) (zaa (zfu (gC (.int 1))) (zaa (gC (.int 0)) (zah)))))))))))))))):GE) [x0,x1,x2,x3,x4,x5,x6,x7,x8] M=.ok (.lst (zf8.take 14)) M:=by rfl
  rw [e]
  show okE (zae _ rest [x0,x1,x2,x3,x4,x5,x6,some (.lst (zf8.take 14)),x8] M) k
  simp only [zbn,zec]
  have e2:((zat false .add (zab 7) (zbq false (zaa (gC (.int 1)) (zaa (gC (.int 4)) (zaa (zbb (zaa (gC (.int 0)) (zah))) (zaa (zbq false (zaa (gC (.int 0)) (zah))) (zaa (gC (.str "0")) (zaa (gC (.int 7)) (zah))))))))):GE) [x0,x1,x2,x3,x4,x5,x6,some (.lst (zf8.take 14)),x8] M=.ok (.lst zf8) M:=by rfl
  rw [e2]
  exact hk
def zky (c:Call):GS:=zae (za4 (zas (zce .tuple (zab 1))) (zae (zav (.one 8) (zbq false (zaa (zbg (.list false) (zaa (zab 1) (zah))) (zaa (zat false .add (zab 1) (zdv false false true (zab 1) (gC .non) (gC (.int 1)))) (zaa (zdv false false true (zab 1) (gC .non) (zfu (gC (.int 1)))) (zaa (gRev false (zab 1)) (zaa (zat false .add (zab 1) (zbb (zaa (zab 5) (zah)))) (zaa (zdv false true false (zab 1) (gC (.int 1)) (gC .non)) (zaa (zbb (zaa (zab 1) (zah))) (zah)))))))))) (zae (zar (zax (zat false .add (zab 8) (zbq false (zaa (zax (zab 7) (zab 4)) (zah)))) (zab 3))) (zai))) (zai)) (zae (za4 (zas (zam 67 c (zaa (zab 1) (zah)))) (zae (zar (zax (zbq false (zaa (zat false .add (zab 1) (gC (.int 1))) (zaa (zat false .sub (zab 1) (gC (.int 1))) (zaa (zat false .sub (gC (.int 0)) (zab 1)) (zaa (zab 5) (zaa (zab 5) (zaa (za8 .eq (zab 1) (gC (.int 1))) (zaa (zat false .sub (gC (.int 3)) (zab 1)) (zaa (zax (zab 7) (zab 4)) (zah)))))))))) (zab 3))) (zai)) (zai)) (zlk c))
theorem zy4 (n:Nat) {k L p B kind pick:Nat}{num:Int}{d:D}{x2 x6 x8:Option D} (hd:Th k L d) (hk:k≤50) (h6:6≤L) (hL:L≤50) (hp:zbf M p B) (hB:B≤800000) (hkd:kind < 8) (hpk:pick < 20) :
    okE (zky (zaq P (n+5)) [some (.cell p),some d,x2,some (nD kind),some (nD pick),some (.int num),x6,some (.lst zf8),x8] M) (zhn fun d' M'=>Th (k+1) (L+1) d' /\ zbf M' p (B+3) /\ zby p M M'):=by
  have hl:pick < zf8.length:=hpk
  have ho:Th (k+1) (L+1) zf8[pick]:=(zvy (List.getElem_mem hl)).mono (by omega) (by omega)
  have pick8:∀ {xs:List D},xs.length=8->(∀ x∈xs,Th (k+1) (L+1) x)->∃ x,zg5 (.lst xs) (nD kind) M=some x /\ Th (k+1) (L+1) x:=fun {xs} h8 h=>⟨_,zpf (by omega),h _ (List.getElem_mem _)⟩
  unfold zky
  have tail:=zwp hp_ ht_ hw_ n (x2:=x2) (x5:=some (.int num)) (x6:=x6) (x8:=x8) (kind:=kind) hd hk h6 hL hp hB hpk
  cases d with
  | fn j=>exact absurd hd (by cases k<;>exact id)
  | exc y p=>exact absurd hd (by cases k<;>exact id)
  | tup xs =>
    refine zqz (za6 (by simp [zcj])) ?_
    simp only [zbn,zec,zd2,zph,zcm,zc1,zct,zjp,zim,e_slc,zt6,e_neg,e_rev,e_c,zmq,List.getElem?_cons_zero,List.getElem?_cons_succ,Option.getD_some,Option.some.injEq,exists_eq_left',List.set_cons_zero,List.set_cons_succ]
    have hx:=hd.tup
    have hxl:=hx.1
    have hx1:∀ d∈xs,Th k (L+1) d:=fun d hd=>(hx.2 d hd).mono (Nat.le_refl _) (by omega)
    have up:∀ {ys:List D},ys.length≤L+1->(∀ d∈ys,d∈xs \/ Th k (L+1) d)->Th (k+1) (L+1) (.tup ys):=fun {ys} hl h=>.tup_of hl fun d hd=>by
      rcases h d hd with z | z
      · exact hx1 d z
      · exact z
    refine zyj.mpr (zfr.mpr ⟨zba (by omega),rfl,rfl,slc_1 fun ys y1 y2=>?_⟩)
    refine zmw.mpr ⟨zba (by simp;omega),1,rfl,rfl,rfl,zsd (hl:=false) (hh:=true) rfl rfl fun i2 j2=>z0n.mpr ⟨zba (by simp),zmw.mpr ⟨zba (by simp;omega),rfl,rfl,zsd (hl:=true) (hh:=false) rfl rfl fun i3 j3=>⟨zba (by simp),zfr.mpr ⟨zba (by simp),?_⟩⟩⟩⟩⟩
    obtain ⟨x,e1,e2⟩:=pick8 (xs:=[.lst xs,.tup (xs++ys),.tup (cut xs i2 j2),.tup xs.reverse,.tup (xs++[.int num]),.tup (cut xs i3 j3),.tup [.tup xs]]++[zf8[pick]]) rfl (fun x hx'=>by
      simp only [List.cons_append,List.nil_append,List.mem_cons,List.not_mem_nil,or_false] at hx'
      rcases hx' with rfl | rfl | rfl | rfl | rfl | rfl | rfl | rfl
      · exact .lst_of (by omega) hx1
      · exact up (by simp;omega) fun d hd=>(List.mem_append.mp hd).elim .inl fun z=>.inl (y2 d z)
      · exact up (Nat.le_trans zhy.1 (by omega)) fun d hd=>.inl (zhy.2.2 d hd)
      · exact up (by simp;omega) fun d hd=>.inl (List.mem_reverse.mp hd)
      · exact up (by simp;omega) fun d hd=>by
          rcases List.mem_append.mp hd with z | z
          · exact .inl z
          · rw [List.mem_singleton.mp z];exact .inr (by cases k<;>trivial)
      · exact up (Nat.le_trans zhy.1 (by omega)) fun d hd=>.inl (zhy.2.2 d hd)
      · exact .tup_of (by simp) fun d hd'=>by rw [List.mem_singleton.mp hd'];exact hd.mono (Nat.le_refl _) (by omega)
      · exact ho)
    refine zsq (v:=x) (zaz ?_) ⟨e2,hp.mono (by omega),.refl⟩
    simp only [zmq,zim,zct,zph,zcm,zc1]
    exact ⟨_,rfl,_,rfl,_,rfl,_,zpf hl,zfr.mpr ⟨zba (by simp),add_ll.mpr (zfr.mpr ⟨zba (by simp),_,rfl,x,e1,rfl,rfl⟩)⟩⟩
  | int i =>
    have qw:=zj0 hw_ (n+4) (M:=M) hd
    refine za0 (za6 (by simp [zcj])) (zqz (za6 (by simp [qw,zjz])) ?_)
    simp only [zbn,zd2,zph,zcm,zc1,zct,zim,e_c,zmq,zpi,List.getElem?_cons_zero,List.getElem?_cons_succ,Option.getD_some,Option.some.injEq,exists_eq_left',zgx,zls]
    refine ⟨_,rfl,_,zpf hl,zfr.mpr ⟨zba (by simp),?_⟩⟩
    obtain ⟨x,e1,e2⟩:=pick8 (xs:=[.int (i+1),.int (i - 1),.int (0 - i),.int num,.int num,.bl (i==1),.int (3 - i),zf8[pick]]) rfl (fun x hx=>by
      simp only [List.mem_cons,List.not_mem_nil,or_false] at hx
      rcases hx with rfl | rfl | rfl | rfl | rfl | rfl | rfl | rfl
      all_goals first | exact ho | trivial)
    exact ⟨x,e1,e2,hp.mono (by omega),.refl⟩
  | _ =>
    have qw:=zj0 hw_ (n+4) (M:=M) hd
    exact za0 (za6 (by simp [zcj])) (za0 (za6 (by simp [qw,zjz])) tail)
omit hp_ ht_ hw_ in
theorem zyf {k L:Nat}{xs:List D} (h:Th k L (.tup xs)) (hk:k≤60):zb1 .ne (.tup xs) (.tup []) M=some (!xs.isEmpty):=by
  refine zsv (h.mono (n':=64) (by omega) (Nat.le_refl L)).pure rfl ?_
  cases xs<;>rfl
theorem zoq (n deep:Nat) {k L p B:Nat}{d:D} (hd:Th k L d) (hk:k≤50) (h6:6≤L) (hL:L≤50) (hp:zbf M p B) (hB:B≤700000)
    (ih:0 < deep->∀ {k' B':Nat}{d':D}{M':Mem},Th k' L d'->k'≤50->zbf M' p B'->B'≤B+4->okE (zaq P (n+deep+5) 72 [.cell p,d',.int ((deep:Int) - 1)] M') fun e M''=>Th (k'+1) (L+1) e /\ zbf M'' p (B'+6 * deep) /\ zby p M' M'') :
    okE (zaq P (n+deep+6) 72 [.cell p,d,nD deep] M) fun d' M'=>Th (k+1) (L+1) d' /\ zbf M' p (B+6 * (deep+1)) /\ zby p M M':=by
  refine za2 ht_.bent rfl ?_
  show okE (zae _ (zae _ (zae _ (zae (za4 _ _ zai) (zae _ (zae _ (zky (zaq P (n+deep+5)))))))) [some (.cell p),some d,some (nD deep),none,none,none,none,none,none] M) _
  simp only [zbn,zec,zcq,zdr,zcm,zc1,e_c,zct,zim,List.getElem?_cons_zero,List.getElem?_cons_succ,Option.getD_some,Option.some.injEq,exists_eq_left',List.set_cons_zero,List.set_cons_succ]
  refine tk hp_ (n+deep+3) (many:=8) hp (by omega) (by decide) (by decide) fun kind M1 hkd q1 k1=>?_
  refine tk hp_ (n+deep+3) (many:=20) q1 (by omega) (by decide) (by decide) fun pick M2 hpk q2 k2=>?_
  refine tk hp_ (n+deep+3) (many:=9) q2 (by omega) (by decide) (by decide) fun num M3 hnm q3 k3=>?_
  rw [zls]
  have K3:=(k1.trans k2).trans k3
  have mid:okE (zae _ (zae _ (zky (zaq P (n+deep+5)))) [some (.cell p),some d,some (nD deep),some (nD kind),some (nD pick),some (.int ((num:Int) - 2)),none,none,none] M3) (zhn fun d' M'=>Th (k+1) (L+1) d' /\ zbf M' p (B+6 * (deep+1)) /\ zby p M M'):=
    zvx (zbu (zy4 hp_ ht_ hw_ (n+deep) hd hk h6 hL q3 (by omega) hkd hpk) fun fl M' hf=>by
      cases fl with
      | next ρ=>exact ⟨hf.1,hf.2.1.mono (by omega),K3.trans hf.2.2⟩
      | ret e=>exact ⟨hf.1,hf.2.1.mono (by omega),K3.trans hf.2.2⟩
      | exc x ρ=>exact hf.elim)
  refine zbn.mp ?_
  cases d with
  | fn j=>exact absurd hd (by cases k<;>exact id)
  | exc y p=>exact absurd hd (by cases k<;>exact id)
  | tup xs =>
    have ne:=zyf (M:=M3) hd (by omega)
    by_cases hc:xs≠[] /\ 0 < deep /\ 4 < pick
    · obtain ⟨c1,c2,c3⟩:=hc
      have lx:0 < xs.length:=List.length_pos_iff.mpr c1
      have ei:xs.isEmpty=false:=by cases xs with | nil=>exact absurd rfl c1 | cons _ _=>rfl
      rw [ei] at ne
      refine zqz (za6 (by simp [zcj,ne];omega)) ?_
      have hx:=hd.tup
      have hxl:=hx.1
      cases k with
      | zero=>exact hd.elim
      | succ k' =>
        have hx':∀ d∈xs,Th k' L d:=hd.2
        simp only [zbn,zec,zd2,zcq,zt6,zmq,e_slc,zdr,zcm,zc1,e_c,zct,zim,zjp,List.getElem?_cons_zero,List.getElem?_cons_succ,Option.getD_some,Option.some.injEq,exists_eq_left',List.set_cons_zero,List.set_cons_succ,znm,zgx,zls]
        refine tk hp_ (n+deep+3) q3 (by omega) lx (by omega) fun at_ M4 hat q4 k4=>?_
        refine ⟨rfl,rfl,slt_to hat ?_⟩
        refine ⟨xs[at_],?_,?_⟩
        · show (ixN xs.length (at_:Int)).bind (fun j=>xs[j]?)=_
          rw [zhh hat];simp [hat]
        refine zbu (ih c2 (hx' _ (List.getElem_mem hat)) (by omega) q4 (by omega)) fun e M5 ⟨he,q5,k5⟩=>?_
        refine ⟨zba (by simp),zmw.mpr ⟨zba (by simp;omega),rfl,rfl,zxr hat ?_⟩⟩
        refine zmw.mpr ⟨zba (by simp;omega),.tup_of (by simp;omega) fun d hd=>?_,q5.mono (by omega),(K3.trans k4).trans k5⟩
        rcases List.mem_append.mp hd with z | z
        · rcases List.mem_append.mp z with z | z
          · exact (hx' d (List.mem_of_mem_take z)).mono (by omega) (by omega)
          · rw [List.mem_singleton.mp z];exact he
        · exact (hx' d (List.mem_of_mem_drop z)).mono (by omega) (by omega)
    · refine za0 (za6 ?_) mid
      simp [zcj,ne]
      by_cases e0:xs=[]
      · simp [e0]
      · right
        refine ⟨e0,?_⟩
        have hc':¬ (0 < deep /\ 4 < pick):=fun z=>hc ⟨e0,z⟩
        omega
  | _=>exact za0 (za6 (by simp [zcj])) mid
theorem zsc:∀ (deep n:Nat) {k L p B:Nat}{d:D}{M:Mem},deep≤9->Th k L d->k≤50->6≤L->L≤50->zbf M p B->B+10 * deep≤700000->
    okE (zaq P (n+deep+6) 72 [.cell p,d,nD deep] M) fun d' M'=>Th (k+1) (L+1) d' /\ zbf M' p (B+6 * (deep+1)) /\ zby p M M'
  | 0,n,k,L,p,B,d,M,h9,hd,hk,h6,hL,hp,hB=>zoq hp_ ht_ hw_ n 0 hd hk h6 hL hp (by omega) (fun z=>absurd z (by decide))
  | deep+1,n,k,L,p,B,d,M,h9,hd,hk,h6,hL,hp,hB=>zoq hp_ ht_ hw_ n (deep+1) hd hk h6 hL hp (by omega) (fun _ {k' B' d' M'} h1 h2 h3 h4=>by
      rw [show (((deep+1:Nat):Int) - 1)=(deep:Int) by omega]
      exact zsc deep n (by omega) h1 h2 h6 hL h3 (by omega))
end
end LD
namespace LD
open PySem
def md (w p:Nat) (t:D):D:=.tup [nD w,nD p,t]
theorem md_of {d:D} (h:zd4 d=true):∃ w p t,d=md w p t /\ 2≤w /\ w≤4 /\ 1≤p /\ p≤2:=by
  match d,h with
  | .tup [a, b, c], h =>
    simp only [zd4,Bool.and_eq_true] at h
    obtain ⟨e1,l1,u1⟩:=zhz h.1 (by decide)
    obtain ⟨e2,l2,u2⟩:=zhz h.2.1 (by decide)
    exact ⟨ze1 a,ze1 b,c,by rw [md,<- e1,<- e2],by omega,by omega,by omega,by omega⟩
section
variable {P:Nat->Option Df}{M:Mem}{k L:Nat}{d:D}
theorem zye (h:zjt P) (h13:P 13=some ⟨1,1,zcc⟩) (n:Nat) (hd:Th k L d) (hL:L≤100) (hb:zd4 d=true):zaq P (n+8) 13 [d] M=.ok .non M:=by
  refine zaz (za2 h13 rfl ?_)
  simp [zcc,zpx h n hd hL,hb]
theorem zvz (h:zjt P) (h13:P 13=some ⟨1,1,zcc⟩) (n:Nat) (hd:Th k L d) (hL:L≤100) (hb:zd4 d=false):zaq P (n+8) 13 [d] M=.err (.exc 3 none) M:=by
  refine zoe (zrb h13 rfl ?_)
  simp [zcc,zpx h n hd hL,hb]
  decide
theorem zwq (h:zjt P) (h13:P 13=some ⟨1,1,zcc⟩) (h74:P 74=some ⟨1,6,zcr⟩) (n:Nat) (hd:Th k L d) (hL:L≤100) (hb:zd4 d=false):zaq P (n+9) 74 [d] M=.err (.exc 3 none) M:=by
  refine zoe (zrb h74 rfl ?_)
  simp [zcr,zvz h h13 n hd hL hb]
theorem zmv {A:Type}{M Ls:List A}{x:A}{i:Nat} (h:Ls.length=i):(M++(Ls++[x]))[M.length+i]?=some x:=by
  rw [List.getElem?_append_right (by omega)]
  simp [<- h]
theorem zrh (h:zjt P) (h13:P 13=some ⟨1,1,zcc⟩) (h74:P 74=some ⟨1,6,zcr⟩) (n:Nat) {w p:Nat}{t:D} (hd:Th k L (md w p t)) (hL:L≤100) (hb:zd4 (md w p t)=true) (w4:w≤4) (p2:p≤2) :
    okE (zaq P (n+9) 74 [md w p t] M) fun d M'=>∃ Ls:Mem,Ls.length=p /\ d=.cell (M.length+p) /\ M'=M++(Ls++[(zc4 w p).map zcz]):=by
  refine za2 h74 rfl ?_
  simp [zcr,zye h h13 n hd hL hb]
  simp [md,zfw]
  refine ⟨by decide,by omega,?_⟩
  refine zhw (ds:=(List.range p).map fun (k:Nat)=>D.int (k:Int)) (fun i ρ M'=>∃ (Ls:Mem) (a:Option D),Ls.length=i /\ M'=M++(Ls++[(zc4 w i).map zcz]) /\ ρ=[some (md w p t),some (nD w),some (nD p),some t,some (.cell (M.length+i)),a]) (fun _ _ _ _=>rfl) ⟨[],none,rfl,by simp [zc4,zcz],rfl⟩ ?_ ?_
  · rintro i d ρ M' hd ⟨Ls,a,hl,rfl,rfl⟩
    have hi:i < p:=by
      have:=(List.getElem?_eq_some_iff.mp hd).1
      simpa using this
    refine ⟨_,rfl,?_⟩
    simp [zeh]
    refine zt9 (ds:=(zc4 w i).map zcz) (fun _=>(List.range w).map fun (k:Nat)=>D.int (k:Int)) (fun d e=>match d,e with | .tup x,e=>.tup (x++[e]) | _,_=>.non) 4 (by simpa using fun _ _=>w4) ?_ (zmv hl) ?_ ?_
    · have:=zhj w4 i (by omega)
      have:(4:Nat) ^ i≤4 ^ 2:=Nat.pow_le_pow_right (by decide) (by omega)
      simp only [List.length_map]
      exact zba (by omega)
    · intro d hd
      obtain ⟨s,hs,rfl⟩:=List.mem_map.mp hd
      have ⟨l1,_⟩:=zrg s hs
      refine ⟨_,rfl,(fun _=>some ((List.range w).map fun (k:Nat)=>D.int (k:Int))),za6 ?_,rfl,fun e he=>⟨_,rfl,zaz ?_⟩⟩
      · simp
        omega
      · simp [zcz,sz]
        omega
    · have e0:((zc4 w i).map zcz).flatMap (fun d=>((List.range w).map fun (k:Nat)=>D.int (k:Int)).map (fun e=>match d,e with | .tup x,e=>D.tup (x++[e]) | _,_=>.non))=(zc4 w (i+1)).map zcz:=by
        simp only [zc4,ext1,List.flatMap_map,List.map_flatMap,List.map_map]
        congr 1
        funext s
        simp [zcz,Function.comp_def]
      rw [e0]
      refine ⟨?_,Ls++[(zc4 w i).map zcz],by simp [hl],by simp,?_⟩
      case refine_2=>simp [hl]
      · have:=zhj w4 (i+1) (by omega)
        have:(4:Nat) ^ (i+1)≤4 ^ 2:=Nat.pow_le_pow_right (by decide) (by omega)
        simp only [List.length_map]
        exact zba (by omega)
  · rintro ρ M' ⟨Ls,a,hl,rfl,rfl⟩
    simp at hl
    simp
    exact hl
theorem zwr (c:Call) {w p:Nat}{t:D} (w2:2≤w) (w4:w≤4) (p1:1≤p) (p2:p≤2):zd9 c [some (md w p t)] M=.ok (.ret (.lst ((zc4 w p).map zcz))) M:=by
  have e:(w=2 \/ w=3 \/ w=4) /\ (p=1 \/ p=2):=by omega
  rcases e with ⟨rfl | rfl | rfl,rfl | rfl⟩<;>rfl
theorem zlu (h42:P 42=some ⟨1,1,zd9⟩) (n:Nat) {w p:Nat}{t:D} (w2:2≤w) (w4:w≤4) (p1:1≤p) (p2:p≤2):zaq P (n+1) 42 [md w p t] M=.ok (.lst ((zc4 w p).map zcz)) M:=by
  refine zaz (za2 h42 rfl ?_)
  show okE (zd9 (zaq P n) [some (md w p t)] M) _
  rw [zwr _ w2 w4 p1 p2]
  exact ⟨rfl,rfl⟩
theorem zxx (c:Call):zdx c [some (.exc 3 none),none,none] M=.ok (.ret (.lst [.str "machine"])) M:=by rfl
theorem zrr (h75:P 75=some ⟨1,3,zdx⟩) (n:Nat):zaq P (n+1) 75 [.exc 3 none] M=.ok (.lst [.str "machine"]) M:=by
  refine zaz (za2 h75 rfl ?_)
  show okE (zdx (zaq P n) [some (.exc 3 none),none,none] M) _
  rw [zxx]
  exact ⟨rfl,rfl⟩
theorem zxj (h:zjt P) (h13:P 13=some ⟨1,1,zcc⟩) (h74:P 74=some ⟨1,6,zcr⟩) (h75:P 75=some ⟨1,3,zdx⟩) (h76:P 76=some ⟨1,4,ze2⟩) (n:Nat) (hd:Th k L d) (hL:L≤100) (hb:zd4 d=false) :
    zaq P (n+10) 76 [d] M=.ok (.tup [.str "machine"]) M:=by
  refine zaz (za2 h76 rfl ?_)
  simp [ze2,zwq h h13 h74 n hd hL hb,tryK,endK,zb1,zil,zrr h75 (n+8),ze5,rdD]
theorem zr8 (h:zjt P) (h13:P 13=some ⟨1,1,zcc⟩) (h74:P 74=some ⟨1,6,zcr⟩) (h76:P 76=some ⟨1,4,ze2⟩) (n:Nat) {w p:Nat}{t:D} (hd:Th k L (md w p t)) (hL:L≤100) (hb:zd4 (md w p t)=true) (w4:w≤4) (p2:p≤2) :
    okE (zaq P (n+10) 76 [md w p t] M) fun d M'=>∃ Ls:Mem,Ls.length=p /\ d=.cell (M.length+p) /\ M'=M++(Ls++[(zc4 w p).map zcz]):=by
  refine za2 h76 rfl ?_
  simp only [ze2,zbn,zec,e_c,zcq,s_try_,z0m,zz6,zcm,zc1,zct]
  simp
  refine zvv (zbu (zrh h h13 h74 n hd hL hb w4 p2) fun d M' ⟨Ls,h1,h2,h3⟩=>?_)
  subst h2 h3
  simp [tryK,zb1,zil]
  exact h1
end
section
variable {P:Nat->Option Df} (h:zui P) {M:Mem}
include h
theorem zs1 (n:Nat) {p:Nat}{ds:List D} (hp:M[p]?=some ds) (hz:ds.length≤sz) (hs:∀ d∈ds,zaq P n 40 [d,d] M=.ok (.bl true) M):zaq P (n+1) 40 [.cell p,.lst ds] M=.ok (.bl true) M:=by
  refine zaz (za2 h.same rfl ?_)
  show okE (zcx (zaq P n) [some (.cell p),some (.lst ds)] M) _
  unfold zcx
  refine za0 rfl (za0 rfl (za0 rfl (za0 rfl (za0 rfl (zp9 h n hp rfl ?_ rfl rfl rfl hz hs)))))
  show (match zcn M (.cell p) with | some xs=>Res.ok (D.int xs.length) M | none=>Res.bad)=_
  rw [show zcn M (.cell p)=some ds from hp]
theorem zu2 (n:Nat) {z:Str} (hz:zaw 64 (.str z)=true):zaq P (n+1) 40 [.str z,.str z] M=.ok (.bl true) M:=by
  refine zaz (za2 h.same rfl ?_)
  have e:zb1 .eq (.str z) (.str z) M=some true:=znu hz hz (by simp [view,zbp])
  show okE (zcx (zaq P n) [some (.str z),some (.str z)] M) _
  unfold zcx
  refine za0 rfl (za0 rfl (za0 rfl (zcg rfl (v:=.bl true) ?_ ⟨rfl,rfl⟩)))
  show ((ofO M (zb1 .eq (.str z) (.str z) M)).bind fun b M=>Res.ok (D.bl b) M)=_
  rw [e];rfl
theorem zh6 (n:Nat) {w p q:Nat} (w4:w≤4) (p2:p≤2) (hq:M[q]?=some ((zc4 w p).map zcz)):zaq P (n+3) 40 [.cell q,.lst ((zc4 w p).map zcz)] M=.ok (.bl true) M:=by
  have l:=zhj w4 p p2
  have:(4:Nat) ^ p≤4 ^ 2:=Nat.pow_le_pow_right (by decide) p2
  refine zs1 h (n+2) hq (zba (by simp;omega)) fun d hd=>?_
  obtain ⟨s,hs,rfl⟩:=List.mem_map.mp hd
  exact zrq h n (by have:=(zrg s hs).1;omega)
end
end LD
namespace LD
open PySem
def thB:Nat->Nat->D->Bool
  | _,_,.non=>true
  | _,_,.bl _=>true
  | _,_,.int _=>true
  | _,L,.str x=>decide (x.cps.size≤L)&&x.cps.all (· < 0x110000)
  | n+1,L,.tup ds=>decide (ds.length≤L)&&ds.all (thB n L)
  | n+1,L,.lst ds=>decide (ds.length≤L)&&ds.all (thB n L)
  | _,_,_=>false
theorem zlr:∀ {n L:Nat}{d:D},thB n L d=true->Th n L d
  | n,L,.non,_=>by cases n<;>trivial
  | n,L,.bl _,_=>by cases n<;>trivial
  | n,L,.int _,_=>by cases n<;>trivial
  | n, L, .str x, h => by
    have q:(decide (x.cps.size≤L)&&x.cps.all (· < 0x110000))=true:=by cases n<;>exact h
    simp only [Bool.and_eq_true,decide_eq_true_eq] at q
    have q:x.cps.size≤L /\ x.cps.all (· < 0x110000)=true:=q
    cases n<;>exact q
  | n + 1, L, .tup ds, h => by
    have h:(decide (ds.length≤L)&&ds.all (thB n L))=true:=h
    simp only [Bool.and_eq_true,decide_eq_true_eq] at h
    exact ⟨h.1,fun d hd=>zlr (List.all_eq_true.mp h.2 d hd)⟩
  | n + 1, L, .lst ds, h => by
    have h:(decide (ds.length≤L)&&ds.all (thB n L))=true:=h
    simp only [Bool.and_eq_true,decide_eq_true_eq] at h
    exact ⟨h.1,fun d hd=>zlr (List.all_eq_true.mp h.2 d hd)⟩
  | 0,L,.tup ds,h=>by cases h
  | 0,L,.lst ds,h=>by cases h
  | n,L,.frz _,h=>by cases n<;>cases h
  | n,L,.cell _,h=>by cases n<;>cases h
  | n,L,.fn _,h=>by cases n<;>cases h
  | n,L,.exc _ _,h=>by cases n<;>cases h
theorem zuw {w:Nat}{t:List Nat} (h:zhv w t) (w4:w≤4):Th 2 6 (zcz t):=by
  refine ⟨by have:=h.1;simp;omega,fun d hd=>?_⟩
  obtain ⟨i,_,rfl⟩:=List.mem_map.mp hd
  trivial
theorem zpb {n:Nat}{z:Str} (h:thB 0 6 (.str z)=true):Th n 6 (.str z):=(zlr h).mono (Nat.zero_le n) (Nat.le_refl 6)
theorem zgt {n:Nat}{i:Int}:Th n 6 (.int i):=by cases n<;>trivial
theorem z2b {w p:Nat}{d:zbw} (h:zf2 w p d) (w4:w≤4):Th 4 6 d.d:=by
  cases d with
  | turn a t c =>
    refine ⟨by simp,fun x hx=>?_⟩
    simp only [List.mem_cons,List.not_mem_nil,or_false] at hx
    rcases hx with rfl | rfl | rfl | rfl
    · exact zpb (by decide +kernel)
    · exact zgt
    · exact (zuw h.2.1 w4).mono (by decide) (by decide)
    · exact zgt
  | join a o t c =>
    refine ⟨by simp,fun x hx=>?_⟩
    simp only [List.mem_cons,List.not_mem_nil,or_false] at hx
    rcases hx with rfl | rfl | rfl | rfl | rfl
    · exact zpb (by decide +kernel)
    · exact zgt
    · exact zgt
    · refine ⟨by have:=h.2.2.1.1;simp;omega,fun y hy=>?_⟩
      obtain ⟨z,hz,rfl⟩:=List.mem_map.mp hy
      exact zuw (h.2.2.1.2 z hz) w4
    · exact zgt
  | move a o c =>
    refine ⟨by simp,fun x hx=>?_⟩
    simp only [List.mem_cons,List.not_mem_nil,or_false] at hx
    rcases hx with rfl | rfl | rfl | rfl
    · exact zpb (by decide +kernel)
    all_goals exact zgt
  | put a o c =>
    refine ⟨by simp,fun x hx=>?_⟩
    simp only [List.mem_cons,List.not_mem_nil,or_false] at hx
    rcases hx with rfl | rfl | rfl | rfl
    · exact zpb (by decide +kernel)
    all_goals exact zgt
theorem z1o {m:zgh} (h:zrp m):Th 6 6 m.d:=by
  refine ⟨by simp,fun x hx=>?_⟩
  simp only [List.mem_cons,List.not_mem_nil,or_false] at hx
  rcases hx with rfl | rfl | rfl
  · exact zgt
  · exact zgt
  · refine ⟨by have:=h.d6;simpa using this,fun y hy=>?_⟩
    obtain ⟨z,hz,rfl⟩:=List.mem_map.mp hy
    exact z2b (h.ok z hz) h.w4
structure Has01 (P:Nat->Option Df):Prop where
  m:zjt P
  p:zju P
  t:HasT P
  w:HasW P
  same:P 40=some ⟨2,2,zcx⟩
  law:P 73=some ⟨1,8,z2j⟩
section
variable {P:Nat->Option Df} (h:Has01 P) {M:Mem}
include h
end
end LD
namespace LD
open PySem
structure Has02 (P:Nat->Option Df):Prop where
  m:zjt P
  p:zju P
  t:HasT P
  w:HasW P
  s:zui P
  h13:P 13=some ⟨1,1,zcc⟩
  h42:P 42=some ⟨1,1,zd9⟩
  h74:P 74=some ⟨1,6,zcr⟩
  h75:P 75=some ⟨1,3,zdx⟩
  h76:P 76=some ⟨1,4,ze2⟩
  law:P 77=some ⟨1,9,zkz⟩
def put1:D:=md 2 2 (.tup [.tup [.str "put",.int 0,.int 1,.int 1]])
theorem z02:Th 6 6 put1:=zlr (by decide +kernel)
theorem put1_m:zd4 put1=true:=by decide +kernel
section
variable {P:Nat->Option Df} (h:Has02 P) {M:Mem}
include h
theorem law02 (ns:List Int) (hn:ns.length≤63):∃ M,zaq P 40 77 [.frz (ns.map D.int)] []=.ok (.bl true) M:=by
  have goal:okE (zaq P 40 77 [.frz (ns.map D.int)] []) fun d _=>d=.bl true:=by
    refine za2 h.law rfl ?_
    simp only [zkz,zbn,zec,zdr,zcm,zc1,zct]
    simp only [Option.some.injEq,exists_eq_left',List.getElem?_cons_zero,List.getElem?_cons_succ,Option.getD_some,List.map_cons,List.map_nil,List.cons_append,List.nil_append]
    refine zbu (z0f h.p 38 hn) fun d M1 ⟨ed,q1⟩=>?_
    subst ed
    simp only [zcq,zbn,zqb,zpo,e_c]
    refine ⟨5,rfl,by decide,?_⟩
    refine zhw (ds:=(List.range 5).map fun (k:Nat)=>D.int (k:Int)) (fun i ρ M'=>zbf M' 1 (i * 2000) /\ ∃ x2 x3 x4 x5 x6 x7 x8,ρ=[some (.frz (ns.map D.int)),some (.cell 1),x2,x3,x4,x5,x6,x7,x8]) (fun _ _ _ _=>rfl) ⟨q1,none,none,none,none,none,none,none,rfl⟩ ?_ ?_
    · rintro i dd ρ M' hd ⟨q2,x2,x3,x4,x5,x6,x7,x8,rfl⟩
      have hi:i < 5:=by
        have:=(List.getElem?_eq_some_iff.mp hd).1
        simpa using this
      refine ⟨_,rfl,?_⟩
      simp only [zbn,zec,zdr,zcm,zc1,e_c,zct,zcq,Option.some.injEq,exists_eq_left',List.getElem?_cons_zero,List.getElem?_cons_succ,Option.getD_some,List.set_cons_zero,List.set_cons_succ]
      refine zbu (z0g h.p 38 q2) fun d M3 ⟨ed,q3,k3⟩=>?_
      subst ed
      refine zbu (zs2 h.p 34 (W:=4) (Pl:=2) (mo:=3) q3 (by omega) (by decide) (by decide) (by decide) (by decide) (by decide) (by decide)) fun d M4 ⟨m,em,hm,_,_,_,q4,k4⟩=>?_
      subst em
      have q4':zbf M4 1 (i * 2000+300):=q4.mono (by omega)
      have hmd:m.d=md m.words m.places (.tup (m.deeds.map zbw.d)):=rfl
      have hth:=z1o hm
      have hmb:=zv2 hm
      rw [hmd] at hth hmb ⊢
      generalize D.tup (m.deeds.map zbw.d)=t at hth hmb ⊢
      have w2:=hm.w2
      have w4:=hm.w4
      have p1:=hm.p1
      have p2:=hm.p2
      simp only [zqb,zpo,e_c]
      refine ⟨2,rfl,by decide,?_⟩
      refine zhw (ds:=(List.range 2).map fun (k:Nat)=>D.int (k:Int)) (fun j ρ M'=>zbf M' 1 (i * 2000+300) /\ ∃ x4 x5,ρ=[some (.frz (ns.map D.int)),some (.cell 1),some dd,some (md m.words m.places t),x4,x5,x6,x7,x8]) (fun _ _ _ _=>rfl) ⟨q4',_,_,rfl⟩ ?_ ?_
      · rintro j d5 ρ M5 hd5 ⟨q5,x4,x5,rfl⟩
        refine ⟨_,rfl,?_⟩
        simp only [zbn,zec,zdr,zcm,zc1,e_c,zct,zcq,Option.some.injEq,exists_eq_left',List.getElem?_cons_zero,List.getElem?_cons_succ,Option.getD_some,List.set_cons_zero,List.set_cons_succ]
        refine zbu (zr8 h.m h.h13 h.h74 h.h76 29 (M:=M5) hth (by decide) hmb w4 p2) fun d6 M6 ⟨Ls,hl,e6,eM⟩=>?_
        subst e6 eM
        have at1:(M5++(Ls++[(zc4 m.words m.places).map zcz]))[M5.length+m.places]?=some ((zc4 m.words m.places).map zcz):=zmv hl
        refine zbn.mp (za0 (za6 (by
          simp [zlu h.h42 38 w2 w4 p1 p2,zh6 h.s 36 w4 p2 at1])) ?_)
        have l:=zhj w4 m.places p2
        have:(4:Nat) ^ m.places≤4 ^ 2:=Nat.pow_le_pow_right (by decide) p2
        simp only [zbn,zh9,s_app_,zct,zt6,zcm,zc1,e_c,zcq,Option.some.injEq,exists_eq_left',List.getElem?_cons_zero,List.getElem?_cons_succ,Option.getD_some]
        refine ⟨by decide,_,_,rfl,at1,by simp [sz];omega,?_⟩
        exact ⟨_,rfl,(q5.app).setq (by have:=q5.lt;omega),_,_,rfl⟩
      · rintro ρ M5 ⟨q5,x4,x5,rfl⟩
        simp only [zcq,zbn,zh9,zqb,zpo,e_c]
        refine ⟨3,rfl,by decide,?_⟩
        refine zhw (ds:=(List.range 3).map fun (k:Nat)=>D.int (k:Int)) (fun j ρ M'=>zbf M' 1 (i * 2000+300+j * 100) /\ ∃ x6 x7 x8,ρ=[some (.frz (ns.map D.int)),some (.cell 1),some dd,some (md m.words m.places t),x4,x5,x6,x7,x8]) (fun _ _ _ _=>rfl) ⟨q5.mono (by omega),_,_,_,rfl⟩ ?_ ?_
        · rintro j d5 ρ M6 hd6 ⟨q6,y6,y7,y8,rfl⟩
          have hj:j < 3:=by
            have:=(List.getElem?_eq_some_iff.mp hd6).1
            simpa using this
          refine ⟨_,rfl,?_⟩
          simp only [zbn,zec,zdr,zcm,zc1,e_c,zct,zcq,Option.some.injEq,exists_eq_left',List.getElem?_cons_zero,List.getElem?_cons_succ,Option.getD_some,List.set_cons_zero,List.set_cons_succ]
          refine zbu (zsc h.p h.t h.w 5 28 (by decide) hth (by decide) (by decide) (by decide) q6 (by omega)) fun d1 M7 ⟨t1,q7,k7⟩=>?_
          have lm:=zu4 h.w 34 (M:=M7) t1 (by decide) (by decide)
          cases hb:zd4 d1 with
          | false =>
            rw [hb] at lm
            have e1:=zxj h.m h.h13 h.h74 h.h75 h.h76 29 (M:=M7) t1 (by decide) hb
            have e2:zaq P 39 40 [.tup [.str "machine"],.tup [.str "machine"]] M7=.ok (.bl true) M7:=zn7 h.s 38 (by decide) fun d hd=>by
              rw [List.mem_singleton.mp hd]
              exact zu2 h.s 37 (by decide +kernel)
            simp [lm,e1,e2]
            refine ⟨by decide,q7.mono (by omega)⟩
          | true =>
            rw [hb] at lm
            obtain ⟨w,p,t',rfl,v2,v4,r1,r2⟩:=md_of hb
            have eb:=zlu h.h42 38 (M:=M7) (t:=t') v2 v4 r1 r2
            simp [lm,eb]
            refine zbu (zr8 h.m h.h13 h.h74 h.h76 29 (M:=M7) t1 (by decide) hb v4 r2) fun d6 M8 ⟨Ls,hl,e6,eM⟩=>?_
            subst e6 eM
            rw [zh6 h.s 36 v4 r2 (zmv hl)]
            simp
            exact (q7.app).mono (by omega)
        · rintro ρ M6 ⟨q6,y6,y7,y8,rfl⟩
          exact ⟨_,rfl,q6.mono (by simp;omega),_,_,_,_,_,_,_,rfl⟩
    · rintro ρ M' ⟨q2,x2,x3,x4,x5,x6,x7,x8,rfl⟩
      simp only [zcq,zbn,zh9,zd2,zdr,zcm,zc1]
      have e1:((zbb (zaa (gC (.int 2)) (zaa (gC (.int 2)) (zaa (zbb (zaa (zbb (zaa (gC (.str "put")) (zaa (gC (.int 0)) (zaa (gC (.int 1)) (zaa (gC (.int 1)) (zah)))))) (zah))) (zah))))):GE) [some (.frz (ns.map D.int)),some (.cell 1),x2,x3,x4,x5,x6,x7,x8] M'=.ok put1 M':=by rfl
      rw [e1,ztk]
      refine zbu (zrh h.m h.h13 h.h74 30 (M:=M') z02 (by decide) put1_m (by decide) (by decide)) fun d6 M8 ⟨Ls,hl,e6,eM⟩=>?_
      subst e6 eM
      have e2:∀ M,((zbq false (zaa (zbb (zaa (gC (.int 0)) (zaa (gC (.int 0)) (zah)))) (zaa (zbb (zaa (gC (.int 0)) (zaa (gC (.int 1)) (zah)))) (zaa (zbb (zaa (gC (.int 1)) (zaa (gC (.int 0)) (zah)))) (zaa (zbb (zaa (gC (.int 1)) (zaa (gC (.int 1)) (zah)))) (zah)))))):GE) [some (.frz (ns.map D.int)),some (.cell 1),x2,x3,x4,x5,x6,x7,x8] M=.ok (.lst ((zc4 2 2).map zcz)) M:=fun M=>by rfl
      rw [e2,ztk]
      rw [zh6 h.s 36 (w:=2) (p:=2) (by decide) (by decide) (zmv hl)]
      simp
  obtain ⟨d,M,e,rfl⟩:=ztl.mp goal
  exact ⟨M,e⟩
end
end LD
namespace K02
open PySem PySem.Spec PyProof.Rows L2 LD
def top (i:Nat):PySem.Stmt:=PySem.Challenge.pw_leastdeeds_k02_beginnings_in_order.main.body.getD i (.Pass ⟨0,0,0,0⟩)
abbrev zd7:PySem.Stmt:=top 17
abbrev zfa:PySem.Stmt:=top 24
abbrev ze0:PySem.Stmt:=top 25
abbrev zff:PySem.Stmt:=top 26
abbrev zds:PySem.Stmt:=top 27
abbrev zej:PySem.Stmt:=top 28
abbrev zck:PySem.Stmt:=top 29
abbrev zfb:PySem.Stmt:=top 30
abbrev zfd:PySem.Stmt:=top 31
abbrev zfc:PySem.Stmt:=top 32
abbrev zfv:PySem.Stmt:=top 33
abbrev zfe:PySem.Stmt:=top 35
abbrev zdo:PySem.Stmt:=top 36
abbrev zdh:PySem.Stmt:=top 37
abbrev zdp:PySem.Stmt:=top 38
abbrev zdt:PySem.Stmt:=top 40
abbrev zem:PySem.Stmt:=top 41
abbrev zeo:PySem.Stmt:=top 42
abbrev zel:PySem.Stmt:=top 43
abbrev zcu:PySem.Stmt:=top 44
abbrev zda:PySem.Stmt:=top 45
abbrev zdu:PySem.Stmt:=top 46
abbrev zc9:PySem.Stmt:=top 47
abbrev zd0:PySem.Stmt:=top 48
abbrev zdf:PySem.Stmt:=top 49
abbrev zd1:PySem.Stmt:=top 50
abbrev zdj:PySem.Stmt:=top 51
abbrev zc0:PySem.Stmt:=top 52
abbrev zd8:PySem.Stmt:=top 53
abbrev zc2:PySem.Stmt:=top 54
abbrev zc3:PySem.Stmt:=top 55
abbrev zcl:PySem.Stmt:=top 56
abbrev zen:PySem.Stmt:=top 57
abbrev zdi:PySem.Stmt:=top 58
abbrev zek:PySem.Stmt:=top 59
abbrev zh5:PySem.Stmt:=top 60
theorem nd0:(["thing","low","high"]:List Str).Nodup:=by decide +kernel
theorem nd1:(["words","thing"]:List Str).Nodup:=by decide +kernel
theorem nd2:(["places","thing"]:List Str).Nodup:=by decide +kernel
theorem nd3:(["thing"]:List Str).Nodup:=by decide +kernel
theorem nd4:(["long","thing"]:List Str).Nodup:=by decide +kernel
theorem nd5:(["words","thing"]:List Str).Nodup:=by decide +kernel
theorem nd6:(["word","words","thing"]:List Str).Nodup:=by decide +kernel
theorem nd7:(["words","thing"]:List Str).Nodup:=by decide +kernel
theorem nd8:(["table","words","thing"]:List Str).Nodup:=by decide +kernel
theorem nd9:(["words","places","parts","at","table","price"]:List Str).Nodup:=by decide +kernel
theorem nd10:(["words","places","parts","at","other","table","price"]:List Str).Nodup:=by decide +kernel
theorem nd11:(["words","places","parts","at","other","price"]:List Str).Nodup:=by decide +kernel
theorem nd12:(["words","places","parts","at","word","price"]:List Str).Nodup:=by decide +kernel
theorem nd13:(["words","places","thing","sort","is_sort"]:List Str).Nodup:=by decide +kernel
theorem nd14:(["thing","words","places","deeds"]:List Str).Nodup:=by decide +kernel
theorem nd15:(["deed","thing","words","places","deeds"]:List Str).Nodup:=by decide +kernel
theorem nd16:(["thing"]:List Str).Nodup:=by decide +kernel
theorem nd17:(["machine","words","places","deeds","starts","place"]:List Str).Nodup:=by decide +kernel
theorem nd18:(["start","word","machine","words","places","deeds","starts","place"]:List Str).Nodup:=by decide +kernel
theorem nd19:(["cell","at","primes","one","two","three"]:List Str).Nodup:=by decide +kernel
theorem nd20:(["script","cells","k","cell"]:List Str).Nodup:=by decide +kernel
theorem nd21:(["pen"]:List Str).Nodup:=by decide +kernel
theorem nd22:(["pen","many","at","cell","found"]:List Str).Nodup:=by decide +kernel
theorem nd23:(["pen","others","all_signs","some"]:List Str).Nodup:=by decide +kernel
theorem nd24:(["sign","pen","others","all_signs","some"]:List Str).Nodup:=by decide +kernel
theorem nd25:(["pen"]:List Str).Nodup:=by decide +kernel
theorem nd26:(["pen","text","at"]:List Str).Nodup:=by decide +kernel
theorem nd27:(["thing"]:List Str).Nodup:=by decide +kernel
theorem nd28:(["found","due"]:List Str).Nodup:=by decide +kernel
theorem nd29:(["one","other","found","due"]:List Str).Nodup:=by decide +kernel
theorem nd30:(["pen","words","kind","word","other","found"]:List Str).Nodup:=by decide +kernel
theorem nd31:(["k","pen","words","kind","word","other","found"]:List Str).Nodup:=by decide +kernel
theorem nd32:(["k","pen","words","kind","word","other","found"]:List Str).Nodup:=by decide +kernel
theorem nd33:(["k","pen","words","kind","word","other","found"]:List Str).Nodup:=by decide +kernel
theorem nd34:(["pen","words","places","kind","price","at","other"]:List Str).Nodup:=by decide +kernel
theorem nd35:(["k","pen","words","places","kind","price","at","other"]:List Str).Nodup:=by decide +kernel
theorem zj7:(["pen","words","places","most","deeds","k","again","deed"]:List Str).Nodup:=by decide +kernel
theorem nd37:(["machine"]:List Str).Nodup:=by decide +kernel
theorem nd38:(["k","machine"]:List Str).Nodup:=by decide +kernel
theorem nd39:(["word","machine"]:List Str).Nodup:=by decide +kernel
theorem nd40:(["thing","low","high"]:List Str).Nodup:=by decide +kernel
theorem nd41:(["thing","many","low","high"]:List Str).Nodup:=by decide +kernel
theorem nd42:(["one","thing","many","low","high"]:List Str).Nodup:=by decide +kernel
theorem nd43:(["thing","words","places"]:List Str).Nodup:=by decide +kernel
theorem nd44:(["one","thing","words","places"]:List Str).Nodup:=by decide +kernel
theorem nd45:(["thing"]:List Str).Nodup:=by decide +kernel
theorem nd46:(["deed","thing"]:List Str).Nodup:=by decide +kernel
theorem zj6:(["pen","thing","deep","kind","pick","number","at","odd","some"]:List Str).Nodup:=by decide +kernel
theorem zlh:(["caught","some","words"]:List Str).Nodup:=by decide +kernel
theorem nd49:(["thing","caught","found","e"]:List Str).Nodup:=by decide +kernel
theorem zjj:(["script","pen","turn","machine","again","found","k","thing","due"]:List Str).Nodup:=by decide +kernel
def Pg:Nat->Option Df
  | 0=>some ⟨3,3,zfz⟩
  | 1=>some ⟨2,2,zhk⟩
  | 2=>some ⟨2,2,zgv⟩
  | 3=>some ⟨1,1,zhl⟩
  | 4=>some ⟨2,2,zfo⟩
  | 5=>some ⟨2,2,zgu⟩
  | 6=>some ⟨2,2,zed⟩
  | 7=>some ⟨3,6,zgl⟩
  | 8=>some ⟨3,7,zgn⟩
  | 9=>some ⟨3,6,zgm⟩
  | 10=>some ⟨3,6,zg7⟩
  | 11=>some ⟨3,5,zfy⟩
  | 12=>some ⟨1,4,ze6⟩
  | 13=>some ⟨1,1,zcc⟩
  | 28=>some ⟨2,6,zgc⟩
  | 29=>some ⟨1,4,zhb⟩
  | 30=>some ⟨1,1,zhd⟩
  | 31=>some ⟨2,5,zix⟩
  | 32=>some ⟨2,6,zhu⟩
  | 33=>some ⟨3,7,zhc⟩
  | 34=>some ⟨4,8,zf7⟩
  | 40=>some ⟨2,2,zcx⟩
  | 42=>some ⟨1,1,zd9⟩
  | 64=>some ⟨2,4,zew⟩
  | 65=>some ⟨1,1,zex⟩
  | 66=>some ⟨2,3,zfp⟩
  | 67=>some ⟨1,1,zgw⟩
  | 68=>some ⟨3,3,zf0⟩
  | 69=>some ⟨4,4,zf6⟩
  | 70=>some ⟨3,3,zbi⟩
  | 71=>some ⟨1,1,zee⟩
  | 72=>some ⟨3,9,ziy⟩
  | 74=>some ⟨1,6,zcr⟩
  | 75=>some ⟨1,3,zdx⟩
  | 76=>some ⟨1,4,ze2⟩
  | 77=>some ⟨1,9,zkz⟩
  | _=>none
end K02
set_option maxHeartbeats 4000000
namespace K02
open PySem PySem.Spec PyProof.Rows L2 LD
structure Txt (K:PySem.W.Frag) (w:World) (mg:Str->Option Value) (fa:Fa):Prop where
  b_ValueError:mg "ValueError"=none
  b_all:mg "all"=none
  b_bool:mg "bool"=none
  b_enumerate:mg "enumerate"=none
  b_int:mg "int"=none
  b_isinstance:mg "isinstance"=none
  b_len:mg "len"=none
  b_list:mg "list"=none
  b_range:mg "range"=none
  b_str:mg "str"=none
  b_tuple:mg "tuple"=none
  b_zip:mg "zip"=none
  c_LEAST_WORDS:∃ t,mg "LEAST_WORDS"=some (.int 2 t)
  c_MOST_COST:∃ t,mg "MOST_COST"=some (.int 3 t)
  c_MOST_DEEDS:∃ t,mg "MOST_DEEDS"=some (.int 6 t)
  c_MOST_PLACES:∃ t,mg "MOST_PLACES"=some (.int 2 t)
  c_MOST_WORDS:∃ t,mg "MOST_WORDS"=some (.int 4 t)
  d_SORTS:∃ ad kvs,mg "SORTS"=some (.ref ad) /\ zgy K w.params ad kvs /\ ze4 fa kvs zdw
  xc:XCs fa K
  k_DeedError:∃ D,mg "DeedError"=some (.ref D) /\ fa 999=some D
  k_NoRow:∃ D,mg "NoRow"=some (.ref D) /\ fa (cid 0)=some D
  k_NoRule:∃ D,mg "NoRule"=some (.ref D) /\ fa (cid 1)=some D
  k_NoStep:∃ D,mg "NoStep"=some (.ref D) /\ fa (cid 2)=some D
  k_NoMachine:∃ D,mg "NoMachine"=some (.ref D) /\ fa (cid 3)=some D
  k_TooLong:∃ D,mg "TooLong"=some (.ref D) /\ fa (cid 4)=some D
  k_NoWord:∃ D,mg "NoWord"=some (.ref D) /\ fa (cid 5)=some D
  k_NoWork:∃ D,mg "NoWork"=some (.ref D) /\ fa (cid 6)=some D
  k_NoBound:∃ D,mg "NoBound"=some (.ref D) /\ fa (cid 7)=some D
  k_TooMany:∃ D,mg "TooMany"=some (.ref D) /\ fa (cid 8)=some D
  k_NoPlace:∃ D,mg "NoPlace"=some (.ref D) /\ fa (cid 9)=some D
  k_NoDeed:∃ D,mg "NoDeed"=some (.ref D) /\ fa (cid 10)=some D
  k_Nothing:∃ D,mg "Nothing"=some (.ref D) /\ fa (cid 11)=some D
  k_NoText:∃ D,mg "NoText"=some (.ref D) /\ fa (cid 12)=some D
  k_NoLine:∃ D,mg "NoLine"=some (.ref D) /\ fa (cid 13)=some D
  kr_NoMachine:∃ C,mg "NoMachine"=some (.ref C) /\ fa (cid 3)=some C /\ PySem.W.excIn K C bmV "ValueError.__new__"=true
  f_is_between:∀ ad,fa 0=some ad->mg "is_between"=some (.ref ad)
  f_is_word:∀ ad,fa 1=some ad->mg "is_word"=some (.ref ad)
  f_is_place:∀ ad,fa 2=some ad->mg "is_place"=some (.ref ad)
  f_is_cost:∀ ad,fa 3=some ad->mg "is_cost"=some (.ref ad)
  f_is_tuple_of:∀ ad,fa 4=some ad->mg "is_tuple_of"=some (.ref ad)
  f_is_table:∀ ad,fa 5=some ad->mg "is_table"=some (.ref ad)
  f_is_double_table:∀ ad,fa 6=some ad->mg "is_double_table"=some (.ref ad)
  f_is_deed:∀ ad,fa 11=some ad->mg "is_deed"=some (.ref ad)
  f_is_machine:∀ ad,fa 12=some ad->mg "is_machine"=some (.ref ad)
  f_need_machine:∀ ad,fa 13=some ad->mg "need_machine"=some (.ref ad)
  f__law_spread:∀ ad,fa 28=some ad->mg "_law_spread"=some (.ref ad)
  f__law_open:∀ ad,fa 29=some ad->mg "_law_open"=some (.ref ad)
  f__law_anew:∀ ad,fa 30=some ad->mg "_law_anew"=some (.ref ad)
  f__law_take:∀ ad,fa 31=some ad->mg "_law_take"=some (.ref ad)
  f__law_tab:∀ ad,fa 32=some ad->mg "_law_tab"=some (.ref ad)
  f__law_deed:∀ ad,fa 33=some ad->mg "_law_deed"=some (.ref ad)
  f__law_machine:∀ ad,fa 34=some ad->mg "_law_machine"=some (.ref ad)
  f__law_same:∀ ad,fa 40=some ad->mg "_law_same"=some (.ref ad)
  f__law_begins:∀ ad,fa 42=some ad->mg "_law_begins"=some (.ref ad)
  f__law_sign_but:∀ ad,fa 64=some ad->mg "_law_sign_but"=some (.ref ad)
  f__law_any_sign:∀ ad,fa 65=some ad->mg "_law_any_sign"=some (.ref ad)
  f__law_signed:∀ ad,fa 66=some ad->mg "_law_signed"=some (.ref ad)
  f__law_is_whole:∀ ad,fa 67=some ad->mg "_law_is_whole"=some (.ref ad)
  f__law_is_in:∀ ad,fa 68=some ad->mg "_law_is_in"=some (.ref ad)
  f__law_numbers:∀ ad,fa 69=some ad->mg "_law_numbers"=some (.ref ad)
  f__law_is_deed:∀ ad,fa 70=some ad->mg "_law_is_deed"=some (.ref ad)
  f__law_is_machine:∀ ad,fa 71=some ad->mg "_law_is_machine"=some (.ref ad)
  f__law_bent:∀ ad,fa 72=some ad->mg "_law_bent"=some (.ref ad)
  f_beginnings:∀ ad,fa 74=some ad->mg "beginnings"=some (.ref ad)
  f__law_refusal:∀ ad,fa 75=some ad->mg "_law_refusal"=some (.ref ad)
  f__law_told:∀ ad,fa 76=some ad->mg "_law_told"=some (.ref ad)
theorem boot_bool:bootBuiltins "bool"=some (.type (tyName .bool)):=by decide +kernel
theorem boot_int:bootBuiltins "int"=some (.type (tyName .int)):=by decide +kernel
theorem boot_list:bootBuiltins "list"=some (.type (tyName .list)):=by decide +kernel
theorem boot_str:bootBuiltins "str"=some (.type (tyName .str)):=by decide +kernel
theorem boot_tuple:bootBuiltins "tuple"=some (.type (tyName .tuple)):=by decide +kernel
section
variable {fa:Fa}{P:Program}{w:World}{K:PySem.W.Frag}{mg:Str->Option Value}{base:Heap}
theorem zov:zbd ["thing","low","high"] ["thing","low","high"] (zag zd7):=⟨rfl,rfl,rfl,nd0,rfl,by decide +kernel,by decide +kernel⟩
variable (T:Txt K w mg fa) {ad:Addr} (c:Call) (n:Nat) (cdv:Value) (A:Around) (outer:List PySem.Env) (s:Shared) (H:Hp) (E:XK) (C:∀ f,ze7 fa P w K mg base n f (c f))
include T C in
theorem zqk (hr:zbj n (A.deeper (envOfC "is_between" (zag zd7) s.heap.objs.size ad cdv))) :
    DSs fa (zb0 (CXE P w) P w K mg base ["thing","low","high"] "is_between" (zag zd7) ad cdv A outer s H E) (za9 zd7) (zfz c):=by
  have hu:(A.deeper (envOfC "is_between" (zag zd7) s.heap.objs.size ad cdv)).units+100 < cLine:=by have:=hr.un;omega
  exact unbox (zaf (zbc (ze8 (zef (zbo (zb2 .bool (fun _ h=>nomatch h) (zad (i:=0) rfl (.inl rfl) rfl rfl) rfl T.b_isinstance rfl T.b_bool boot_bool (by decide) rfl rfl) (fun _=>rfl)) (zeb (zb9 (zbo (zb2 .int (fun _ h=>nomatch h) (zad (i:=0) rfl (.inl rfl) rfl rfl) rfl T.b_isinstance rfl T.b_int boot_int (by decide) rfl rfl) (fun _=>rfl)))))) (zaf (zau (zcy)) (zal)) (zal)) (zaf (zau (zum hu .le .le (zad (i:=1) rfl (.inl rfl) rfl rfl) (zad (i:=0) rfl (.inl rfl) rfl rfl) (zad (i:=2) rfl (.inl rfl) rfl rfl) rfl)) (zal)))
theorem zs4:zbd ["words","thing"] ["words","thing"] (zag zfa):=⟨rfl,rfl,rfl,nd1,rfl,by decide +kernel,by decide +kernel⟩
include T C in
theorem zvo (hr:zbj n (A.deeper (envOfC "is_word" (zag zfa) s.heap.objs.size ad cdv))) :
    DSs fa (zb0 (CXE P w) P w K mg base ["words","thing"] "is_word" (zag zfa) ad cdv A outer s H E) (za9 zfa) (zhk c):=by
  have hu:(A.deeper (envOfC "is_word" (zag zfa) s.heap.objs.size ad cdv)).units+100 < cLine:=by have:=hr.un;omega
  exact unbox (zaf (zau (zao 0 C hr rfl T.f_is_between (zac (zad (i:=1) rfl (.inl rfl) rfl rfl) (zac (zaj) (zac (zap false .sub (zad (i:=0) rfl (.inl rfl) rfl rfl) (zaj)) (zak) rfl) rfl) rfl) rfl rfl rfl)) (zal))
theorem zrt:zbd ["places","thing"] ["places","thing"] (zag ze0):=⟨rfl,rfl,rfl,nd2,rfl,by decide +kernel,by decide +kernel⟩
include T C in
theorem ztf (hr:zbj n (A.deeper (envOfC "is_place" (zag ze0) s.heap.objs.size ad cdv))) :
    DSs fa (zb0 (CXE P w) P w K mg base ["places","thing"] "is_place" (zag ze0) ad cdv A outer s H E) (za9 ze0) (zgv c):=by
  have hu:(A.deeper (envOfC "is_place" (zag ze0) s.heap.objs.size ad cdv)).units+100 < cLine:=by have:=hr.un;omega
  exact unbox (zaf (zau (zao 0 C hr rfl T.f_is_between (zac (zad (i:=1) rfl (.inl rfl) rfl rfl) (zac (zaj) (zac (zap false .sub (zad (i:=0) rfl (.inl rfl) rfl rfl) (zaj)) (zak) rfl) rfl) rfl) rfl rfl rfl)) (zal))
theorem zs9:zbd ["thing"] ["thing"] (zag zff):=⟨rfl,rfl,rfl,nd3,rfl,by decide +kernel,by decide +kernel⟩
include T C in
theorem zvt (hr:zbj n (A.deeper (envOfC "is_cost" (zag zff) s.heap.objs.size ad cdv))) :
    DSs fa (zb0 (CXE P w) P w K mg base ["thing"] "is_cost" (zag zff) ad cdv A outer s H E) (za9 zff) (zhl c):=by
  have hu:(A.deeper (envOfC "is_cost" (zag zff) s.heap.objs.size ad cdv)).units+100 < cLine:=by have:=hr.un;omega
  exact unbox (zaf (zau (zao 0 C hr rfl T.f_is_between (zac (zad (i:=0) rfl (.inl rfl) rfl rfl) (zac (zaj) (zac (zh1 (i:=3) rfl T.c_MOST_COST rfl) (zak) rfl) rfl) rfl) rfl rfl rfl)) (zal))
theorem zm2:zbd ["long","thing"] ["long","thing"] (zag zds):=⟨rfl,rfl,rfl,nd4,rfl,by decide +kernel,by decide +kernel⟩
include T C in
theorem zoy (hr:zbj n (A.deeper (envOfC "is_tuple_of" (zag zds) s.heap.objs.size ad cdv))) :
    DSs fa (zb0 (CXE P w) P w K mg base ["long","thing"] "is_tuple_of" (zag zds) ad cdv A outer s H E) (za9 zds) (zfo c):=by
  have hu:(A.deeper (envOfC "is_tuple_of" (zag zds) s.heap.objs.size ad cdv)).units+100 < cLine:=by have:=hr.un;omega
  exact unbox (zaf (zau (zea (zb2 .tuple (fun _ h=>nomatch h) (zad (i:=1) rfl (.inl rfl) rfl rfl) rfl T.b_isinstance rfl T.b_tuple boot_tuple (by decide) rfl rfl) (zfk (zfl hu .eq (zc5 rfl T.b_len (zac (zad (i:=1) rfl (.inl rfl) rfl rfl) (zak) rfl) rfl rfl) (zad (i:=0) rfl (.inl rfl) rfl rfl) rfl)))) (zal))
theorem zrs:zbd ["words","thing"] ["words","thing"] (zag zej):=⟨rfl,rfl,rfl,nd5,rfl,by decide +kernel,by decide +kernel⟩
include T C in
theorem zte (hr:zbj n (A.deeper (envOfC "is_table" (zag zej) s.heap.objs.size ad cdv))) :
    DSs fa (zb0 (CXE P w) P w K mg base ["words","thing"] "is_table" (zag zej) ad cdv A outer s H E) (za9 zej) (zgu c):=by
  have hu:(A.deeper (envOfC "is_table" (zag zej) s.heap.objs.size ad cdv)).units+100 < cLine:=by have:=hr.un;omega
  exact unbox (zaf (zau (zea (zao 4 C hr rfl T.f_is_tuple_of (zac (zad (i:=0) rfl (.inr (.inl rfl)) rfl rfl) (zac (zad (i:=1) rfl (.inl rfl) rfl rfl) (zak) rfl) rfl) rfl rfl rfl) (zfk (zpn rfl rfl T.b_all (zac (zez false (zcv (own:=["word"]) (bn:=["words","thing"]) (sc:=zag zej) (N:=["words","thing"]) rfl rfl rfl (by decide +kernel)) rfl (zgz (zad (i:=1) rfl (.inl rfl) rfl rfl)) (fun cl C0 fp s0 H0=>zan (i:=0) nd6 rfl (.inl rfl) (.inr rfl)) (fun cl C0 fp s0 H0=>zao 1 C hr rfl T.f_is_word (zac (zad (i:=1) rfl (.inr (.inl rfl)) rfl rfl) (zac (zad (i:=0) rfl (.inl rfl) rfl rfl) (zak) rfl) rfl) rfl rfl rfl) rfl (fun _=>rfl)) (zak) rfl) rfl rfl)))) (zal))
theorem zj1:zbd ["words","thing"] ["words","thing"] (zag zck):=⟨rfl,rfl,rfl,nd7,rfl,by decide +kernel,by decide +kernel⟩
include T C in
theorem zk0 (hr:zbj n (A.deeper (envOfC "is_double_table" (zag zck) s.heap.objs.size ad cdv))) :
    DSs fa (zb0 (CXE P w) P w K mg base ["words","thing"] "is_double_table" (zag zck) ad cdv A outer s H E) (za9 zck) (zed c):=by
  have hu:(A.deeper (envOfC "is_double_table" (zag zck) s.heap.objs.size ad cdv)).units+100 < cLine:=by have:=hr.un;omega
  exact unbox (zaf (zau (zea (zao 4 C hr rfl T.f_is_tuple_of (zac (zad (i:=0) rfl (.inr (.inl rfl)) rfl rfl) (zac (zad (i:=1) rfl (.inl rfl) rfl rfl) (zak) rfl) rfl) rfl rfl rfl) (zfk (zpn rfl rfl T.b_all (zac (zez false (zcv (own:=["table"]) (bn:=["words","thing"]) (sc:=zag zck) (N:=["words","thing"]) rfl rfl rfl (by decide +kernel)) rfl (zgz (zad (i:=1) rfl (.inl rfl) rfl rfl)) (fun cl C0 fp s0 H0=>zan (i:=0) nd8 rfl (.inl rfl) (.inr rfl)) (fun cl C0 fp s0 H0=>zao 5 C hr rfl T.f_is_table (zac (zad (i:=1) rfl (.inr (.inl rfl)) rfl rfl) (zac (zad (i:=0) rfl (.inl rfl) rfl rfl) (zak) rfl) rfl) rfl rfl rfl) rfl (fun _=>rfl)) (zak) rfl) rfl rfl)))) (zal))
theorem zs5:zbd ["words","places","parts","at","table","price"] ["words","places","parts"] (zag zfb):=⟨rfl,rfl,rfl,nd9,rfl,by decide +kernel,by decide +kernel⟩
include T C in
theorem zvp (hr:zbj n (A.deeper (envOfC "is_turn" (zag zfb) s.heap.objs.size ad cdv))) :
    DSs fa (zb0 (CXE P w) P w K mg base ["words","places","parts","at","table","price"] "is_turn" (zag zfb) ad cdv A outer s H E) (za9 zfb) (zgl c):=by
  have hu:(A.deeper (envOfC "is_turn" (zag zfb) s.heap.objs.size ad cdv)).units+100 < cLine:=by have:=hr.un;omega
  exact unbox (zaf (zbc (zbs hu .ne (zc5 rfl T.b_len (zac (zad (i:=2) rfl (.inl rfl) rfl rfl) (zak) rfl) rfl rfl) (zaj) rfl) (zaf (zau (zcy)) (zal)) (zal)) (zaf (za5 (zad (i:=2) rfl (.inl rfl) rfl rfl) (zgj (l:=[3,4,5]) rfl nd9 (.cons rfl (.inl rfl) (.inl rfl) (.cons rfl (.inl rfl) (.inl rfl) (.cons rfl (.inl rfl) (.inl rfl) (.nil))))) rfl rfl rfl) (zaf (zau (zea (zao 2 C hr rfl T.f_is_place (zac (zad (i:=1) rfl (.inl rfl) rfl rfl) (zac (zad (i:=3) rfl (.inl rfl) rfl rfl) (zak) rfl) rfl) rfl rfl rfl) (zea (zao 5 C hr rfl T.f_is_table (zac (zad (i:=0) rfl (.inl rfl) rfl rfl) (zac (zad (i:=4) rfl (.inl rfl) rfl rfl) (zak) rfl) rfl) rfl rfl rfl) (zfk (zao 3 C hr rfl T.f_is_cost (zac (zad (i:=5) rfl (.inl rfl) rfl rfl) (zak) rfl) rfl rfl rfl))))) (zal))))
theorem zs7:zbd ["words","places","parts","at","other","table","price"] ["words","places","parts"] (zag zfd):=⟨rfl,rfl,rfl,nd10,rfl,by decide +kernel,by decide +kernel⟩
include T C in
theorem zvr (hr:zbj n (A.deeper (envOfC "is_join" (zag zfd) s.heap.objs.size ad cdv))) :
    DSs fa (zb0 (CXE P w) P w K mg base ["words","places","parts","at","other","table","price"] "is_join" (zag zfd) ad cdv A outer s H E) (za9 zfd) (zgn c):=by
  have hu:(A.deeper (envOfC "is_join" (zag zfd) s.heap.objs.size ad cdv)).units+100 < cLine:=by have:=hr.un;omega
  exact unbox (zaf (zbc (zbs hu .ne (zc5 rfl T.b_len (zac (zad (i:=2) rfl (.inl rfl) rfl rfl) (zak) rfl) rfl rfl) (zaj) rfl) (zaf (zau (zcy)) (zal)) (zal)) (zaf (za5 (zad (i:=2) rfl (.inl rfl) rfl rfl) (zgj (l:=[3,4,5,6]) rfl nd10 (.cons rfl (.inl rfl) (.inl rfl) (.cons rfl (.inl rfl) (.inl rfl) (.cons rfl (.inl rfl) (.inl rfl) (.cons rfl (.inl rfl) (.inl rfl) (.nil)))))) rfl rfl rfl) (zaf (zbc (ze8 (zef (zb9 (zbo (zao 2 C hr rfl T.f_is_place (zac (zad (i:=1) rfl (.inl rfl) rfl rfl) (zac (zad (i:=3) rfl (.inl rfl) rfl rfl) (zak) rfl) rfl) rfl rfl rfl) (fun _=>rfl))) (zeb (zb9 (zbo (zao 2 C hr rfl T.f_is_place (zac (zad (i:=1) rfl (.inl rfl) rfl rfl) (zac (zad (i:=4) rfl (.inl rfl) rfl rfl) (zak) rfl) rfl) rfl rfl rfl) (fun _=>rfl)))))) (zaf (zau (zcy)) (zal)) (zal)) (zaf (zau (zea (zao 6 C hr rfl T.f_is_double_table (zac (zad (i:=0) rfl (.inl rfl) rfl rfl) (zac (zad (i:=5) rfl (.inl rfl) rfl rfl) (zak) rfl) rfl) rfl rfl rfl) (zfk (zao 3 C hr rfl T.f_is_cost (zac (zad (i:=6) rfl (.inl rfl) rfl rfl) (zak) rfl) rfl rfl rfl)))) (zal)))))
theorem zs6:zbd ["words","places","parts","at","other","price"] ["words","places","parts"] (zag zfc):=⟨rfl,rfl,rfl,nd11,rfl,by decide +kernel,by decide +kernel⟩
include T C in
theorem zvq (hr:zbj n (A.deeper (envOfC "is_move" (zag zfc) s.heap.objs.size ad cdv))) :
    DSs fa (zb0 (CXE P w) P w K mg base ["words","places","parts","at","other","price"] "is_move" (zag zfc) ad cdv A outer s H E) (za9 zfc) (zgm c):=by
  have hu:(A.deeper (envOfC "is_move" (zag zfc) s.heap.objs.size ad cdv)).units+100 < cLine:=by have:=hr.un;omega
  exact unbox (zaf (zbc (zbs hu .ne (zc5 rfl T.b_len (zac (zad (i:=2) rfl (.inl rfl) rfl rfl) (zak) rfl) rfl rfl) (zaj) rfl) (zaf (zau (zcy)) (zal)) (zal)) (zaf (za5 (zad (i:=2) rfl (.inl rfl) rfl rfl) (zgj (l:=[3,4,5]) rfl nd11 (.cons rfl (.inl rfl) (.inl rfl) (.cons rfl (.inl rfl) (.inl rfl) (.cons rfl (.inl rfl) (.inl rfl) (.nil))))) rfl rfl rfl) (zaf (zau (zea (zao 2 C hr rfl T.f_is_place (zac (zad (i:=1) rfl (.inl rfl) rfl rfl) (zac (zad (i:=3) rfl (.inl rfl) rfl rfl) (zak) rfl) rfl) rfl rfl rfl) (zea (zao 2 C hr rfl T.f_is_place (zac (zad (i:=1) rfl (.inl rfl) rfl rfl) (zac (zad (i:=4) rfl (.inl rfl) rfl rfl) (zak) rfl) rfl) rfl rfl rfl) (zfk (zao 3 C hr rfl T.f_is_cost (zac (zad (i:=5) rfl (.inl rfl) rfl rfl) (zak) rfl) rfl rfl rfl))))) (zal))))
theorem zva:zbd ["words","places","parts","at","word","price"] ["words","places","parts"] (zag zfv):=⟨rfl,rfl,rfl,nd12,rfl,by decide +kernel,by decide +kernel⟩
include T C in
theorem zx8 (hr:zbj n (A.deeper (envOfC "is_put" (zag zfv) s.heap.objs.size ad cdv))) :
    DSs fa (zb0 (CXE P w) P w K mg base ["words","places","parts","at","word","price"] "is_put" (zag zfv) ad cdv A outer s H E) (za9 zfv) (zg7 c):=by
  have hu:(A.deeper (envOfC "is_put" (zag zfv) s.heap.objs.size ad cdv)).units+100 < cLine:=by have:=hr.un;omega
  exact unbox (zaf (zbc (zbs hu .ne (zc5 rfl T.b_len (zac (zad (i:=2) rfl (.inl rfl) rfl rfl) (zak) rfl) rfl rfl) (zaj) rfl) (zaf (zau (zcy)) (zal)) (zal)) (zaf (za5 (zad (i:=2) rfl (.inl rfl) rfl rfl) (zgj (l:=[3,4,5]) rfl nd12 (.cons rfl (.inl rfl) (.inl rfl) (.cons rfl (.inl rfl) (.inl rfl) (.cons rfl (.inl rfl) (.inl rfl) (.nil))))) rfl rfl rfl) (zaf (zau (zea (zao 2 C hr rfl T.f_is_place (zac (zad (i:=1) rfl (.inl rfl) rfl rfl) (zac (zad (i:=3) rfl (.inl rfl) rfl rfl) (zak) rfl) rfl) rfl rfl rfl) (zea (zao 1 C hr rfl T.f_is_word (zac (zad (i:=0) rfl (.inl rfl) rfl rfl) (zac (zad (i:=4) rfl (.inl rfl) rfl rfl) (zak) rfl) rfl) rfl rfl rfl) (zfk (zao 3 C hr rfl T.f_is_cost (zac (zad (i:=5) rfl (.inl rfl) rfl rfl) (zak) rfl) rfl rfl rfl))))) (zal))))
theorem zs8:zbd ["words","places","thing","sort","is_sort"] ["words","places","thing"] (zag zfe):=⟨rfl,rfl,rfl,nd13,rfl,by decide +kernel,by decide +kernel⟩
include T C in
theorem zvs (hr:zbj n (A.deeper (envOfC "is_deed" (zag zfe) s.heap.objs.size ad cdv))) :
    DSs fa (zb0 (CXE P w) P w K mg base ["words","places","thing","sort","is_sort"] "is_deed" (zag zfe) ad cdv A outer s H E) (za9 zfe) (zfy c):=by
  have hu:(A.deeper (envOfC "is_deed" (zag zfe) s.heap.objs.size ad cdv)).units+100 < cLine:=by have:=hr.un;omega
  exact unbox (zaf (zbc (ze8 (zef (zb9 (zbo (zb2 .tuple (fun _ h=>nomatch h) (zad (i:=2) rfl (.inl rfl) rfl rfl) rfl T.b_isinstance rfl T.b_tuple boot_tuple (by decide) rfl rfl) (fun _=>rfl))) (zeb (zb9 (zbo (zad (i:=2) rfl (.inl rfl) rfl rfl) (fun _=>rfl)))))) (zaf (zau (zcy)) (zal)) (zal)) (zaf (za5 (za7 (zad (i:=2) rfl (.inl rfl) rfl rfl) (zaj) (fun _ _=>rfl)) (zan (i:=3) nd13 rfl (.inl rfl) (.inl rfl)) rfl rfl rfl) (zaf (zbc (ze8 (zef (zb9 (zbo (zb2 .str (fun _ h=>nomatch h) (zad (i:=3) rfl (.inl rfl) rfl rfl) rfl T.b_isinstance rfl T.b_str boot_str (by decide) rfl rfl) (fun _=>rfl))) (zeb (zw4 T.d_SORTS rfl rfl (zad (i:=3) rfl (.inl rfl) rfl rfl) rfl)))) (zaf (zau (zcy)) (zal)) (zal)) (zaf (za5 (zw2 T.d_SORTS rfl rfl (zad (i:=3) rfl (.inl rfl) rfl rfl) (fun _ _=>rfl)) (zan (i:=4) nd13 rfl (.inl rfl) (.inl rfl)) rfl rfl rfl) (zaf (zau (zw3 (i:=4) C hr rfl (.inl rfl) (zac (zad (i:=0) rfl (.inl rfl) rfl rfl) (zac (zad (i:=1) rfl (.inl rfl) rfl rfl) (zac (zgo false true false (zad (i:=2) rfl (.inl rfl) rfl rfl) (zeu (zaj)) (zfq)) (zak) rfl) rfl) rfl) rfl rfl rfl rfl)) (zal))))))
theorem zou:zbd ["thing","words","places","deeds"] ["thing"] (zag zdo):=⟨rfl,rfl,rfl,nd14,rfl,by decide +kernel,by decide +kernel⟩
include T C in
theorem zqj (hr:zbj n (A.deeper (envOfC "is_machine" (zag zdo) s.heap.objs.size ad cdv))) :
    DSs fa (zb0 (CXE P w) P w K mg base ["thing","words","places","deeds"] "is_machine" (zag zdo) ad cdv A outer s H E) (za9 zdo) (ze6 c):=by
  have hu:(A.deeper (envOfC "is_machine" (zag zdo) s.heap.objs.size ad cdv)).units+100 < cLine:=by have:=hr.un;omega
  exact unbox (zaf (zbc (zb9 (zbo (zao 4 C hr rfl T.f_is_tuple_of (zac (zaj) (zac (zad (i:=0) rfl (.inl rfl) rfl rfl) (zak) rfl) rfl) rfl rfl rfl) (fun _=>rfl))) (zaf (zau (zcy)) (zal)) (zal)) (zaf (za5 (zad (i:=0) rfl (.inl rfl) rfl rfl) (zgj (l:=[1,2,3]) rfl nd14 (.cons rfl (.inr rfl) (.inl rfl) (.cons rfl (.inr rfl) (.inl rfl) (.cons rfl (.inl rfl) (.inl rfl) (.nil))))) rfl rfl rfl) (zaf (zbc (ze8 (zef (zb9 (zbo (zao 0 C hr rfl T.f_is_between (zac (zad (i:=1) rfl (.inr (.inl rfl)) rfl rfl) (zac (zh1 (i:=2) rfl T.c_LEAST_WORDS rfl) (zac (zh1 (i:=4) rfl T.c_MOST_WORDS rfl) (zak) rfl) rfl) rfl) rfl rfl rfl) (fun _=>rfl))) (zeb (zb9 (zbo (zao 0 C hr rfl T.f_is_between (zac (zad (i:=2) rfl (.inr (.inl rfl)) rfl rfl) (zac (zaj) (zac (zh1 (i:=2) rfl T.c_MOST_PLACES rfl) (zak) rfl) rfl) rfl) rfl rfl rfl) (fun _=>rfl)))))) (zaf (zau (zcy)) (zal)) (zal)) (zaf (zbc (ze8 (zef (zb9 (zbo (zb2 .tuple (fun _ h=>nomatch h) (zad (i:=3) rfl (.inl rfl) rfl rfl) rfl T.b_isinstance rfl T.b_tuple boot_tuple (by decide) rfl rfl) (fun _=>rfl))) (zeb (zb9 (zun hu .le .le (zaj) (zc5 rfl T.b_len (zac (zad (i:=3) rfl (.inl rfl) rfl rfl) (zak) rfl) rfl rfl) (zh1 (i:=6) rfl T.c_MOST_DEEDS rfl) rfl))))) (zaf (zau (zcy)) (zal)) (zal)) (zaf (zau (zpn rfl rfl T.b_all (zac (zez false (zcv (own:=["deed"]) (bn:=["thing","words","places","deeds"]) (sc:=zag zdo) (N:=["thing","words","places","deeds"]) rfl rfl rfl (by decide +kernel)) rfl (zgz (zad (i:=3) rfl (.inl rfl) rfl rfl)) (fun cl C0 fp s0 H0=>zan (i:=0) nd15 rfl (.inl rfl) (.inr rfl)) (fun cl C0 fp s0 H0=>zao 11 C hr rfl T.f_is_deed (zac (zad (i:=2) rfl (.inr (.inl rfl)) rfl rfl) (zac (zad (i:=3) rfl (.inr (.inl rfl)) rfl rfl) (zac (zad (i:=0) rfl (.inl rfl) rfl rfl) (zak) rfl) rfl) rfl) rfl rfl rfl) rfl (fun _=>rfl)) (zak) rfl) rfl rfl)) (zal))))))
theorem zlx:zbd ["thing"] ["thing"] (zag zdh):=⟨rfl,rfl,rfl,nd16,rfl,by decide +kernel,by decide +kernel⟩
include T C in
theorem zm9 (hr:zbj n (A.deeper (envOfC "need_machine" (zag zdh) s.heap.objs.size ad cdv))) :
    DSs fa (zb0 (CXE P w) P w K mg base ["thing"] "need_machine" (zag zdh) ad cdv A outer s H E) (za9 zdh) (zcc c):=by
  have hu:(A.deeper (envOfC "need_machine" (zag zdh) s.heap.objs.size ad cdv)).units+100 < cLine:=by have:=hr.un;omega
  exact unbox (zaf (zbc (zb9 (zbo (zao 12 C hr rfl T.f_is_machine (zac (zad (i:=0) rfl (.inl rfl) rfl rfl) (zak) rfl) rfl rfl rfl) (fun _=>rfl))) (zaf (zwx 3 T.kr_NoMachine rfl rfl rfl (zac (zbr) (zak) rfl) rfl rfl rfl) (zal)) (zal)) (zal))
theorem zow:zbd ["machine","words","places","deeds","starts","place"] ["machine"] (zag zdp):=⟨rfl,rfl,rfl,nd17,rfl,by decide +kernel,by decide +kernel⟩
include T C in
theorem zql (hr:zbj n (A.deeper (envOfC "beginnings" (zag zdp) s.heap.objs.size ad cdv))) :
    DSs fa (zb0 (CXE P w) P w K mg base ["machine","words","places","deeds","starts","place"] "beginnings" (zag zdp) ad cdv A outer s H E) (za9 zdp) (zcr c):=by
  have hu:(A.deeper (envOfC "beginnings" (zag zdp) s.heap.objs.size ad cdv)).units+100 < cLine:=by have:=hr.un;omega
  exact unbox (zaf (xs_exX (zr4 13 C hr rfl rfl T.f_need_machine (zac (zad (i:=0) rfl (.inl rfl) rfl rfl) (zak) rfl) rfl rfl rfl) rfl) (zaf (za5 (zad (i:=0) rfl (.inl rfl) rfl rfl) (zgj (l:=[1,2,3]) rfl nd17 (.cons rfl (.inr rfl) (.inl rfl) (.cons rfl (.inl rfl) (.inl rfl) (.cons rfl (.inl rfl) (.inl rfl) (.nil))))) rfl rfl rfl) (zaf (za5 (zch true (zac (zcd (zak)) (zak) rfl)) (zan (i:=4) nd17 rfl (.inl rfl) (.inl rfl)) rfl rfl rfl) (zaf (zi0 PassesOwn.leaving rfl (zd6 (zad (i:=2) rfl (.inl rfl) rfl rfl) rfl T.b_range rfl) (zan (i:=5) nd17 rfl (.inl rfl) (.inl rfl)) (zaf (zwy true (zcv (own:=["start","word"]) (bn:=["machine","words","places","deeds","starts","place"]) (sc:=zag zdp) (N:=["machine","words","places","deeds","starts","place"]) rfl rfl rfl (by decide +kernel)) rfl (zgz (zad (i:=4) rfl (.inl rfl) rfl rfl)) (fun cl C0 fp s0 H0=>zan (i:=0) nd18 rfl (.inl rfl) (.inr rfl)) (fun cl C0 fp s0 H0=>zd6 (zad (i:=3) rfl (.inr (.inl rfl)) rfl rfl) rfl T.b_range rfl) (fun cl C0 fp s0 H0=>zan (i:=1) nd18 rfl (.inl rfl) (.inr rfl)) (fun cl C0 fp s0 H0=>zap false .add (zad (i:=0) rfl (.inl rfl) rfl rfl) (zcd (zac (zad (i:=1) rfl (.inl rfl) rfl rfl) (zak) rfl))) rfl rfl (fun _=>rfl) (fun cl C0 fp s0 H0=>fun _=>rfl) nd17 rfl rfl rfl) (zal)) (fun _=>rfl)) (zaf (zau (zad (i:=4) rfl (.inl rfl) rfl rfl)) (zal))))))
theorem zm3:zbd ["cell","at","primes","one","two","three"] ["cell","at"] (zag zdt):=⟨rfl,rfl,rfl,nd19,rfl,by decide +kernel,by decide +kernel⟩
include T C in
theorem zoz (hr:zbj n (A.deeper (envOfC "_law_spread" (zag zdt) s.heap.objs.size ad cdv))) :
    DSs fa (zb0 (CXE P w) P w K mg base ["cell","at","primes","one","two","three"] "_law_spread" (zag zdt) ad cdv A outer s H E) (za9 zdt) (zgc c):=by
  have hu:(A.deeper (envOfC "_law_spread" (zag zdt) s.heap.objs.size ad cdv)).units+100 < cLine:=by have:=hr.un;omega
  exact unbox (zaf (zbc (zbs hu .ge (zad (i:=0) rfl (.inl rfl) rfl rfl) (zap false .pow (zaj) (zaj)) rfl) (zaf (zau (zad (i:=0) rfl (.inl rfl) rfl rfl)) (zal)) (zal)) (zaf (za5 (zch false (zac (zaj) (zac (zaj) (zac (zaj) (zac (zaj) (zac (zaj) (zac (zaj) (zac (zaj) (zac (zaj) (zak) rfl) rfl) rfl) rfl) rfl) rfl) rfl) rfl)) (zan (i:=2) nd19 rfl (.inl rfl) (.inl rfl)) rfl rfl rfl) (zaf (za5 (zap false .add (zad (i:=2) rfl (.inl rfl) rfl rfl) (zch false (zac (zaj) (zac (zaj) (zac (zaj) (zac (zaj) (zac (zaj) (zak) rfl) rfl) rfl) rfl) rfl))) (zan (i:=2) nd19 rfl (.inl rfl) (.inl rfl)) rfl rfl rfl) (zaf (za5 (zap false .mod (zap false .pow (zap false .add (zap false .add (zap false .mul (zap false .mod (zad (i:=0) rfl (.inl rfl) rfl rfl) (zaj)) (zap false .add (zap false .mul (zaj) (zad (i:=1) rfl (.inl rfl) rfl rfl)) (zaj))) (zap false .mul (zad (i:=1) rfl (.inl rfl) rfl rfl) (zaj))) (zaj)) (zaj)) (za7 (zad (i:=2) rfl (.inl rfl) rfl rfl) (zap false .mod (zad (i:=1) rfl (.inl rfl) rfl rfl) (zaj)) (fun _ _=>rfl))) (zan (i:=3) nd19 rfl (.inl rfl) (.inl rfl)) rfl rfl rfl) (zaf (za5 (zap false .mod (zap false .pow (zap false .add (zap false .add (zap false .mul (zad (i:=3) rfl (.inl rfl) rfl rfl) (zap false .add (zad (i:=1) rfl (.inl rfl) rfl rfl) (zaj))) (zap false .mod (zad (i:=0) rfl (.inl rfl) rfl rfl) (zaj))) (zaj)) (zaj)) (za7 (zad (i:=2) rfl (.inl rfl) rfl rfl) (zap false .mod (zap false .add (zad (i:=1) rfl (.inl rfl) rfl rfl) (zaj)) (zaj)) (fun _ _=>rfl))) (zan (i:=4) nd19 rfl (.inl rfl) (.inl rfl)) rfl rfl rfl) (zaf (za5 (zap false .mod (zap false .pow (zap false .add (zap false .add (zad (i:=4) rfl (.inl rfl) rfl rfl) (zap false .mod (zad (i:=3) rfl (.inl rfl) rfl rfl) (zaj))) (zad (i:=1) rfl (.inl rfl) rfl rfl)) (zaj)) (za7 (zad (i:=2) rfl (.inl rfl) rfl rfl) (zap false .mod (zap false .add (zad (i:=1) rfl (.inl rfl) rfl rfl) (zaj)) (zaj)) (fun _ _=>rfl))) (zan (i:=5) nd19 rfl (.inl rfl) (.inl rfl)) rfl rfl rfl) (zaf (zau (zap false .add (zap false .mul (zap false .add (zap false .mul (zad (i:=3) rfl (.inl rfl) rfl rfl) (zaj)) (zad (i:=4) rfl (.inl rfl) rfl rfl)) (zaj)) (zad (i:=5) rfl (.inl rfl) rfl rfl))) (zal))))))))
theorem zp5:zbd ["script","cells","k","cell"] ["script"] (zag zem):=⟨rfl,rfl,rfl,nd20,rfl,by decide +kernel,by decide +kernel⟩
include T C in
theorem zry (hr:zbj n (A.deeper (envOfC "_law_open" (zag zem) s.heap.objs.size ad cdv))) :
    DSs fa (zb0 (CXE P w) P w K mg base ["script","cells","k","cell"] "_law_open" (zag zem) ad cdv A outer s H E) (za9 zem) (zhb c):=by
  have hu:(A.deeper (envOfC "_law_open" (zag zem) s.heap.objs.size ad cdv)).units+100 < cLine:=by have:=hr.un;omega
  exact unbox (zaf (za5 (zr6 true rfl T.b_list (zac (zgo false false true (zad (i:=0) rfl (.inl rfl) rfl rfl) (zfq) (zeu (zaj))) (zak) rfl) rfl rfl) (zan (i:=1) nd20 rfl (.inl rfl) (.inl rfl)) rfl rfl rfl) (zaf (zi0 PassesOwn.leaving rfl (zw7 (zgo false true true (zad (i:=0) rfl (.inl rfl) rfl rfl) (zeu (zaj)) (zeu (zaj))) rfl T.b_enumerate rfl) (zgj (l:=[2,3]) rfl nd20 (.cons rfl (.inl rfl) (.inl rfl) (.cons rfl (.inl rfl) (.inl rfl) (.nil)))) (zaf (zh0 (zad (i:=1) rfl (.inl rfl) rfl rfl) (zap false .mod (zad (i:=2) rfl (.inl rfl) rfl rfl) (zaj)) (zap false .add (za7 (zad (i:=1) rfl (.inl rfl) rfl rfl) (zap false .mod (zad (i:=2) rfl (.inl rfl) rfl rfl) (zaj)) (fun _ _=>rfl)) (zad (i:=3) rfl (.inl rfl) rfl rfl)) (fun _=>rfl) rfl rfl rfl) (zal)) (fun _=>rfl)) (zaf (zau (zch true (zac (zad (i:=1) rfl (.inl rfl) rfl rfl) (zac (zaj) (zac (zaj) (zak) rfl) rfl) rfl))) (zal))))
theorem zp8:zbd ["pen"] ["pen"] (zag zeo):=⟨rfl,rfl,rfl,nd21,rfl,by decide +kernel,by decide +kernel⟩
include T C in
theorem zr1 (hr:zbj n (A.deeper (envOfC "_law_anew" (zag zeo) s.heap.objs.size ad cdv))) :
    DSs fa (zb0 (CXE P w) P w K mg base ["pen"] "_law_anew" (zag zeo) ad cdv A outer s H E) (za9 zeo) (zhd c):=by
  have hu:(A.deeper (envOfC "_law_anew" (zag zeo) s.heap.objs.size ad cdv)).units+100 < cLine:=by have:=hr.un;omega
  exact unbox (zaf (zh0 (zad (i:=0) rfl (.inl rfl) rfl rfl) (zaj) (zaj) (fun _=>rfl) rfl rfl rfl) (zaf (zau (zad (i:=0) rfl (.inl rfl) rfl rfl)) (zal)))
theorem zp3:zbd ["pen","many","at","cell","found"] ["pen","many"] (zag zel):=⟨rfl,rfl,rfl,nd22,rfl,by decide +kernel,by decide +kernel⟩
include T C in
theorem zrw (hr:zbj n (A.deeper (envOfC "_law_take" (zag zel) s.heap.objs.size ad cdv))) :
    DSs fa (zb0 (CXE P w) P w K mg base ["pen","many","at","cell","found"] "_law_take" (zag zel) ad cdv A outer s H E) (za9 zel) (zix c):=by
  have hu:(A.deeper (envOfC "_law_take" (zag zel) s.heap.objs.size ad cdv)).units+100 < cLine:=by have:=hr.un;omega
  exact unbox (zaf (zbc (zbs hu .lt (za7 (zad (i:=0) rfl (.inl rfl) rfl rfl) (zaj) (fun _ _=>rfl)) (zad (i:=1) rfl (.inl rfl) rfl rfl) rfl) (zaf (za5 (za7 (zad (i:=0) rfl (.inl rfl) rfl rfl) (zaj) (fun _ _=>rfl)) (zan (i:=2) nd22 rfl (.inl rfl) (.inl rfl)) rfl rfl rfl) (zaf (za5 (zaj) (zan (i:=3) nd22 rfl (.inl rfl) (.inl rfl)) rfl rfl rfl) (zaf (zbc (zbs hu .lt (zad (i:=2) rfl (.inl rfl) rfl rfl) (zc5 rfl T.b_len (zac (za7 (zad (i:=0) rfl (.inl rfl) rfl rfl) (zaj) (fun _ _=>rfl)) (zak) rfl) rfl rfl) rfl) (zaf (za5 (za7 (za7 (zad (i:=0) rfl (.inl rfl) rfl rfl) (zaj) (fun _ _=>rfl)) (zad (i:=2) rfl (.inl rfl) rfl rfl) (fun _ _=>rfl)) (zan (i:=3) nd22 rfl (.inl rfl) (.inl rfl)) rfl rfl rfl) (zal)) (zaf (zbc (zbs hu .gt (zc5 rfl T.b_len (zac (za7 (zad (i:=0) rfl (.inl rfl) rfl rfl) (zaj) (fun _ _=>rfl)) (zak) rfl) rfl rfl) (zaj) rfl) (zaf (za5 (zap false .mod (za7 (za7 (zad (i:=0) rfl (.inl rfl) rfl rfl) (zaj) (fun _ _=>rfl)) (zap false .mod (zap false .add (zap false .mul (zad (i:=2) rfl (.inl rfl) rfl rfl) (zaj)) (zaj)) (zc5 rfl T.b_len (zac (za7 (zad (i:=0) rfl (.inl rfl) rfl rfl) (zaj) (fun _ _=>rfl)) (zak) rfl) rfl rfl)) (fun _ _=>rfl)) (zap false .add (zap false .pow (zaj) (zaj)) (zad (i:=2) rfl (.inl rfl) rfl rfl))) (zan (i:=3) nd22 rfl (.inl rfl) (.inl rfl)) rfl rfl rfl) (zal)) (zal)) (zal))) (zaf (zh0 (zad (i:=0) rfl (.inl rfl) rfl rfl) (zaj) (zap false .add (zad (i:=2) rfl (.inl rfl) rfl rfl) (zaj)) (fun _=>rfl) rfl rfl rfl) (zaf (zh0 (zad (i:=0) rfl (.inl rfl) rfl rfl) (zaj) (zao 28 C hr rfl T.f__law_spread (zac (zad (i:=3) rfl (.inl rfl) rfl rfl) (zac (zad (i:=2) rfl (.inl rfl) rfl rfl) (zak) rfl) rfl) rfl rfl rfl) (fun _=>rfl) rfl rfl rfl) (zal)))))) (zal)) (zaf (za5 (zap false .mod (za7 (zad (i:=0) rfl (.inl rfl) rfl rfl) (zaj) (fun _ _=>rfl)) (zad (i:=1) rfl (.inl rfl) rfl rfl)) (zan (i:=4) nd22 rfl (.inl rfl) (.inl rfl)) rfl rfl rfl) (zaf (zh0 (zad (i:=0) rfl (.inl rfl) rfl rfl) (zaj) (zap false .fdiv (za7 (zad (i:=0) rfl (.inl rfl) rfl rfl) (zaj) (fun _ _=>rfl)) (zad (i:=1) rfl (.inl rfl) rfl rfl)) (fun _=>rfl) rfl rfl rfl) (zaf (zau (zad (i:=4) rfl (.inl rfl) rfl rfl)) (zal)))))
theorem zk9:zbd ["pen","others","all_signs","some"] ["pen","others"] (zag zcu):=⟨rfl,rfl,rfl,nd23,rfl,by decide +kernel,by decide +kernel⟩
include T C in
theorem zmc (hr:zbj n (A.deeper (envOfC "_law_sign_but" (zag zcu) s.heap.objs.size ad cdv))) :
    DSs fa (zb0 (CXE P w) P w K mg base ["pen","others","all_signs","some"] "_law_sign_but" (zag zcu) ad cdv A outer s H E) (za9 zcu) (zew c):=by
  have hu:(A.deeper (envOfC "_law_sign_but" (zag zcu) s.heap.objs.size ad cdv)).units+100 < cLine:=by have:=hr.un;omega
  exact unbox (zaf (za5 (zbr) (zan (i:=2) nd23 rfl (.inl rfl) (.inl rfl)) rfl rfl rfl) (zaf (za5 (zap false .add (zad (i:=2) rfl (.inl rfl) rfl rfl) (zbr)) (zan (i:=2) nd23 rfl (.inl rfl) (.inl rfl)) rfl rfl rfl) (zaf (zuk false (zcv (own:=["sign"]) (bn:=["pen","others","all_signs","some"]) (sc:=zag zcu) (N:=["pen","others","all_signs","some"]) rfl rfl rfl (by decide +kernel)) rfl (zw6 (zad (i:=2) rfl (.inl rfl) rfl rfl)) (fun cl C0 fp s0 H0=>zan (i:=0) nd24 rfl (.inl rfl) (.inr rfl)) (fun cl C0 fp s0 H0=>zbs hu .notin (zad (i:=0) rfl (.inl rfl) rfl rfl) (zad (i:=2) rfl (.inr (.inl rfl)) rfl rfl) rfl) (fun cl C0 fp s0 H0=>zad (i:=0) rfl (.inl rfl) rfl rfl) rfl (fun _=>rfl) nd23 rfl rfl rfl) (zaf (zau (za7 (zad (i:=3) rfl (.inl rfl) rfl rfl) (zao 31 C hr rfl T.f__law_take (zac (zad (i:=0) rfl (.inl rfl) rfl rfl) (zac (zc5 rfl T.b_len (zac (zad (i:=3) rfl (.inl rfl) rfl rfl) (zak) rfl) rfl rfl) (zak) rfl) rfl) rfl rfl rfl) (fun _ _=>rfl))) (zal)))))
theorem zlb:zbd ["pen"] ["pen"] (zag zda):=⟨rfl,rfl,rfl,nd25,rfl,by decide +kernel,by decide +kernel⟩
include T C in
theorem zme (hr:zbj n (A.deeper (envOfC "_law_any_sign" (zag zda) s.heap.objs.size ad cdv))) :
    DSs fa (zb0 (CXE P w) P w K mg base ["pen"] "_law_any_sign" (zag zda) ad cdv A outer s H E) (za9 zda) (zex c):=by
  have hu:(A.deeper (envOfC "_law_any_sign" (zag zda) s.heap.objs.size ad cdv)).units+100 < cLine:=by have:=hr.un;omega
  exact unbox (zaf (zau (zao 64 C hr rfl T.f__law_sign_but (zac (zad (i:=0) rfl (.inl rfl) rfl rfl) (zac (zbr) (zak) rfl) rfl) rfl rfl rfl)) (zal))
theorem zm4:zbd ["pen","text","at"] ["pen","text"] (zag zdu):=⟨rfl,rfl,rfl,nd26,rfl,by decide +kernel,by decide +kernel⟩
include T C in
theorem zo0 (hr:zbj n (A.deeper (envOfC "_law_signed" (zag zdu) s.heap.objs.size ad cdv))) :
    DSs fa (zb0 (CXE P w) P w K mg base ["pen","text","at"] "_law_signed" (zag zdu) ad cdv A outer s H E) (za9 zdu) (zfp c):=by
  have hu:(A.deeper (envOfC "_law_signed" (zag zdu) s.heap.objs.size ad cdv)).units+100 < cLine:=by have:=hr.un;omega
  exact unbox (zaf (za5 (zao 31 C hr rfl T.f__law_take (zac (zad (i:=0) rfl (.inl rfl) rfl rfl) (zac (zap false .add (zc5 rfl T.b_len (zac (zad (i:=1) rfl (.inl rfl) rfl rfl) (zak) rfl) rfl rfl) (zaj)) (zak) rfl) rfl) rfl rfl rfl) (zan (i:=2) nd26 rfl (.inl rfl) (.inl rfl)) rfl rfl rfl) (zaf (zau (zap false .add (zap false .add (zr5 false true (zad (i:=1) rfl (.inl rfl) rfl rfl) (zfq) (zeu (zad (i:=2) rfl (.inl rfl) rfl rfl))) (zao 65 C hr rfl T.f__law_any_sign (zac (zad (i:=0) rfl (.inl rfl) rfl rfl) (zak) rfl) rfl rfl rfl)) (zr5 true false (zad (i:=1) rfl (.inl rfl) rfl rfl) (zeu (zap false .add (zad (i:=2) rfl (.inl rfl) rfl rfl) (zao 31 C hr rfl T.f__law_take (zac (zad (i:=0) rfl (.inl rfl) rfl rfl) (zac (zaj) (zak) rfl) rfl) rfl rfl rfl))) (zfq)))) (zal)))
theorem zla:zbd ["thing"] ["thing"] (zag zc9):=⟨rfl,rfl,rfl,nd27,rfl,by decide +kernel,by decide +kernel⟩
include T C in
theorem zmd (hr:zbj n (A.deeper (envOfC "_law_is_whole" (zag zc9) s.heap.objs.size ad cdv))) :
    DSs fa (zb0 (CXE P w) P w K mg base ["thing"] "_law_is_whole" (zag zc9) ad cdv A outer s H E) (za9 zc9) (zgw c):=by
  have hu:(A.deeper (envOfC "_law_is_whole" (zag zc9) s.heap.objs.size ad cdv)).units+100 < cLine:=by have:=hr.un;omega
  exact unbox (zaf (zau (zea (zb2 .int (fun _ h=>nomatch h) (zad (i:=0) rfl (.inl rfl) rfl rfl) rfl T.b_isinstance rfl T.b_int boot_int (by decide) rfl rfl) (zfk (xr_not (zb2 .bool (fun _ h=>nomatch h) (zad (i:=0) rfl (.inl rfl) rfl rfl) rfl T.b_isinstance rfl T.b_bool boot_bool (by decide) rfl rfl))))) (zal))
theorem zp4:zbd ["found","due"] ["found","due"] (zag zd0):=⟨rfl,rfl,rfl,nd28,rfl,by decide +kernel,by decide +kernel⟩
include T C in
theorem zrx (hr:zbj n (A.deeper (envOfC "_law_same" (zag zd0) s.heap.objs.size ad cdv))) :
    DSs fa (zb0 (CXE P w) P w K mg base ["found","due"] "_law_same" (zag zd0) ad cdv A outer s H E) (za9 zd0) (zcx c):=by
  have hu:(A.deeper (envOfC "_law_same" (zag zd0) s.heap.objs.size ad cdv)).units+100 < cLine:=by have:=hr.un;omega
  exact unbox (zaf (zbc (zbs hu .isN (zad (i:=1) rfl (.inl rfl) rfl rfl) (zi1) rfl) (zaf (zau (zfl hu .isN (zad (i:=0) rfl (.inl rfl) rfl rfl) (zi1) rfl)) (zal)) (zal)) (zaf (zbc (ze8 (zef (zbo (zb2 .bool (fun _ h=>nomatch h) (zad (i:=1) rfl (.inl rfl) rfl rfl) rfl T.b_isinstance rfl T.b_bool boot_bool (by decide) rfl rfl) (fun _=>rfl)) (zeb (zbo (zb2 .bool (fun _ h=>nomatch h) (zad (i:=0) rfl (.inl rfl) rfl rfl) rfl T.b_isinstance rfl T.b_bool boot_bool (by decide) rfl rfl) (fun _=>rfl))))) (zaf (zau (zea (zb2 .bool (fun _ h=>nomatch h) (zad (i:=1) rfl (.inl rfl) rfl rfl) rfl T.b_isinstance rfl T.b_bool boot_bool (by decide) rfl rfl) (zea (zb2 .bool (fun _ h=>nomatch h) (zad (i:=0) rfl (.inl rfl) rfl rfl) rfl T.b_isinstance rfl T.b_bool boot_bool (by decide) rfl rfl) (zfk (zfl hu .eq (zad (i:=0) rfl (.inl rfl) rfl rfl) (zad (i:=1) rfl (.inl rfl) rfl rfl) rfl))))) (zal)) (zal)) (zaf (zbc (zbo (zb2 .int (fun _ h=>nomatch h) (zad (i:=1) rfl (.inl rfl) rfl rfl) rfl T.b_isinstance rfl T.b_int boot_int (by decide) rfl rfl) (fun _=>rfl)) (zaf (zau (zea (zb2 .int (fun _ h=>nomatch h) (zad (i:=0) rfl (.inl rfl) rfl rfl) rfl T.b_isinstance rfl T.b_int boot_int (by decide) rfl rfl) (zfk (zfl hu .eq (zad (i:=0) rfl (.inl rfl) rfl rfl) (zad (i:=1) rfl (.inl rfl) rfl rfl) rfl)))) (zal)) (zal)) (zaf (zbc (zbo (zb2 .str (fun _ h=>nomatch h) (zad (i:=1) rfl (.inl rfl) rfl rfl) rfl T.b_isinstance rfl T.b_str boot_str (by decide) rfl rfl) (fun _=>rfl)) (zaf (zau (zea (zb2 .str (fun _ h=>nomatch h) (zad (i:=0) rfl (.inl rfl) rfl rfl) rfl T.b_isinstance rfl T.b_str boot_str (by decide) rfl rfl) (zfk (zfl hu .eq (zad (i:=0) rfl (.inl rfl) rfl rfl) (zad (i:=1) rfl (.inl rfl) rfl rfl) rfl)))) (zal)) (zal)) (zaf (zbc (ze8 (zef (zbs hu .ne (zb2 .tuple (fun _ h=>nomatch h) (zad (i:=1) rfl (.inl rfl) rfl rfl) rfl T.b_isinstance rfl T.b_tuple boot_tuple (by decide) rfl rfl) (zb2 .tuple (fun _ h=>nomatch h) (zad (i:=0) rfl (.inl rfl) rfl rfl) rfl T.b_isinstance rfl T.b_tuple boot_tuple (by decide) rfl rfl) rfl) (zeb (zbs hu .ne (zb2 .list (fun _ h=>nomatch h) (zad (i:=1) rfl (.inl rfl) rfl rfl) rfl T.b_isinstance rfl T.b_list boot_list (by decide) rfl rfl) (zb2 .list (fun _ h=>nomatch h) (zad (i:=0) rfl (.inl rfl) rfl rfl) rfl T.b_isinstance rfl T.b_list boot_list (by decide) rfl rfl) rfl)))) (zaf (zau (zcy)) (zal)) (zal)) (zaf (zbc (zbs hu .ne (zc5 rfl T.b_len (zac (zad (i:=0) rfl (.inl rfl) rfl rfl) (zak) rfl) rfl rfl) (zc5 rfl T.b_len (zac (zad (i:=1) rfl (.inl rfl) rfl rfl) (zak) rfl) rfl rfl) rfl) (zaf (zau (zcy)) (zal)) (zal)) (zaf (zau (zfl hu .notin (zcy) (zez false (zcv (own:=["one","other"]) (bn:=["found","due"]) (sc:=zag zd0) (N:=["found","due"]) rfl rfl rfl (by decide +kernel)) rfl (zw5 (zad (i:=0) rfl (.inl rfl) rfl rfl) (zad (i:=1) rfl (.inl rfl) rfl rfl) rfl T.b_zip rfl rfl) (fun cl C0 fp s0 H0=>zgj (l:=[0,1]) rfl nd29 (.cons rfl (.inl rfl) (.inr rfl) (.cons rfl (.inl rfl) (.inr rfl) (.nil)))) (fun cl C0 fp s0 H0=>zao 40 C hr rfl T.f__law_same (zac (zad (i:=0) rfl (.inl rfl) rfl rfl) (zac (zad (i:=1) rfl (.inl rfl) rfl rfl) (zak) rfl) rfl) rfl rfl rfl) rfl (fun _=>rfl)) rfl)) (zal))))))))
theorem zru:zbd ["pen","words","kind","word","other","found"] ["pen","words"] (zag zdf):=⟨rfl,rfl,rfl,nd30,rfl,by decide +kernel,by decide +kernel⟩
include T C in
theorem ztg (hr:zbj n (A.deeper (envOfC "_law_tab" (zag zdf) s.heap.objs.size ad cdv))) :
    DSs fa (zb0 (CXE P w) P w K mg base ["pen","words","kind","word","other","found"] "_law_tab" (zag zdf) ad cdv A outer s H E) (za9 zdf) (zhu c):=by
  have hu:(A.deeper (envOfC "_law_tab" (zag zdf) s.heap.objs.size ad cdv)).units+100 < cLine:=by have:=hr.un;omega
  exact unbox (zaf (za5 (zao 31 C hr rfl T.f__law_take (zac (zad (i:=0) rfl (.inr (.inl rfl)) rfl rfl) (zac (zaj) (zak) rfl) rfl) rfl rfl rfl) (zan (i:=2) nd30 rfl (.inl rfl) (.inl rfl)) rfl rfl rfl) (zaf (za5 (zao 31 C hr rfl T.f__law_take (zac (zad (i:=0) rfl (.inr (.inl rfl)) rfl rfl) (zac (zad (i:=1) rfl (.inr (.inl rfl)) rfl rfl) (zak) rfl) rfl) rfl rfl rfl) (zan (i:=3) nd30 rfl (.inr rfl) (.inl rfl)) rfl rfl rfl) (zaf (za5 (zao 31 C hr rfl T.f__law_take (zac (zad (i:=0) rfl (.inr (.inl rfl)) rfl rfl) (zac (zad (i:=1) rfl (.inr (.inl rfl)) rfl rfl) (zak) rfl) rfl) rfl rfl rfl) (zan (i:=4) nd30 rfl (.inr rfl) (.inl rfl)) rfl rfl rfl) (zaf (zbc (zbs hu .lt (zad (i:=2) rfl (.inl rfl) rfl rfl) (zaj) rfl) (zaf (zau (zge rfl T.b_tuple (zac (zez false (zcv (own:=["k"]) (bn:=["pen","words","kind","word","other","found"]) (sc:=zag zdf) (N:=["pen","words","kind","word","other","found"]) rfl rfl rfl (by decide +kernel)) rfl (zd6 (zad (i:=1) rfl (.inr (.inl rfl)) rfl rfl) rfl T.b_range rfl) (fun cl C0 fp s0 H0=>zan (i:=0) nd33 rfl (.inl rfl) (.inr rfl)) (fun cl C0 fp s0 H0=>zao 31 C hr rfl T.f__law_take (zac (zad (i:=1) rfl (.inr (.inl rfl)) rfl rfl) (zac (zad (i:=2) rfl (.inr (.inl rfl)) rfl rfl) (zak) rfl) rfl) rfl rfl rfl) rfl (fun _=>rfl)) (zak) rfl) rfl rfl)) (zal)) (zal)) (zaf (zbc (zbs hu .eq (zad (i:=2) rfl (.inl rfl) rfl rfl) (zaj) rfl) (zaf (zau (zge rfl T.b_tuple (zac (zez false (zcv (own:=["k"]) (bn:=["pen","words","kind","word","other","found"]) (sc:=zag zdf) (N:=["pen","words","kind","word","other","found"]) rfl rfl rfl (by decide +kernel)) rfl (zd6 (zad (i:=1) rfl (.inr (.inl rfl)) rfl rfl) rfl T.b_range rfl) (fun cl C0 fp s0 H0=>zan (i:=0) nd32 rfl (.inl rfl) (.inr rfl)) (fun cl C0 fp s0 H0=>zap false .mod (zap false .add (zap false .add (zad (i:=0) rfl (.inl rfl) rfl rfl) (zaj)) (zad (i:=4) rfl (.inr (.inl rfl)) rfl rfl)) (zad (i:=2) rfl (.inr (.inl rfl)) rfl rfl)) rfl (fun _=>rfl)) (zak) rfl) rfl rfl)) (zal)) (zal)) (zaf (zbc (zbs hu .eq (zad (i:=2) rfl (.inl rfl) rfl rfl) (zaj) rfl) (zaf (zau (zge rfl T.b_tuple (zac (zez false (zcv (own:=["k"]) (bn:=["pen","words","kind","word","other","found"]) (sc:=zag zdf) (N:=["pen","words","kind","word","other","found"]) rfl rfl rfl (by decide +kernel)) rfl (zd6 (zad (i:=1) rfl (.inr (.inl rfl)) rfl rfl) rfl T.b_range rfl) (fun cl C0 fp s0 H0=>zan (i:=0) nd31 rfl (.inl rfl) (.inr rfl)) (fun cl C0 fp s0 H0=>zlp (zbs hu .eq (zad (i:=0) rfl (.inl rfl) rfl rfl) (zad (i:=4) rfl (.inr (.inl rfl)) rfl rfl) rfl) (zad (i:=5) rfl (.inr (.inl rfl)) rfl rfl) (zad (i:=0) rfl (.inl rfl) rfl rfl)) rfl (fun _=>rfl)) (zak) rfl) rfl rfl)) (zal)) (zal)) (zaf (zbc (zbs hu .eq (zad (i:=2) rfl (.inl rfl) rfl rfl) (zaj) rfl) (zaf (zau (zap false .mul (zcd (zac (zad (i:=3) rfl (.inr (.inl rfl)) rfl rfl) (zak) rfl)) (zad (i:=1) rfl (.inr (.inl rfl)) rfl rfl))) (zal)) (zal)) (zaf (za5 (zwz true rfl (zad (i:=1) rfl (.inr (.inl rfl)) rfl rfl) rfl T.b_list rfl T.b_range rfl rfl) (zan (i:=5) nd30 rfl (.inl rfl) (.inl rfl)) rfl rfl rfl) (zaf (zh0 (zad (i:=5) rfl (.inl rfl) rfl rfl) (zad (i:=3) rfl (.inr (.inl rfl)) rfl rfl) (zad (i:=4) rfl (.inr (.inl rfl)) rfl rfl) (fun _=>rfl) rfl rfl rfl) (zaf (zh0 (zad (i:=5) rfl (.inl rfl) rfl rfl) (zad (i:=4) rfl (.inr (.inl rfl)) rfl rfl) (zad (i:=3) rfl (.inr (.inl rfl)) rfl rfl) (fun _=>rfl) rfl rfl rfl) (zaf (zau (zge rfl T.b_tuple (zac (zad (i:=5) rfl (.inl rfl) rfl rfl) (zak) rfl) rfl rfl)) (zal))))))))))))
theorem zp6:zbd ["pen","words","places","kind","price","at","other"] ["pen","words","places"] (zag zd1):=⟨rfl,rfl,rfl,nd34,rfl,by decide +kernel,by decide +kernel⟩
include T C in
theorem zrz (hr:zbj n (A.deeper (envOfC "_law_deed" (zag zd1) s.heap.objs.size ad cdv))) :
    DSs fa (zb0 (CXE P w) P w K mg base ["pen","words","places","kind","price","at","other"] "_law_deed" (zag zd1) ad cdv A outer s H E) (za9 zd1) (zhc c):=by
  have hu:(A.deeper (envOfC "_law_deed" (zag zd1) s.heap.objs.size ad cdv)).units+100 < cLine:=by have:=hr.un;omega
  exact unbox (zaf (za5 (zao 31 C hr rfl T.f__law_take (zac (zad (i:=0) rfl (.inr (.inl rfl)) rfl rfl) (zac (zaj) (zak) rfl) rfl) rfl rfl rfl) (zan (i:=3) nd34 rfl (.inl rfl) (.inl rfl)) rfl rfl rfl) (zaf (za5 (zap false .add (zaj) (zao 31 C hr rfl T.f__law_take (zac (zad (i:=0) rfl (.inr (.inl rfl)) rfl rfl) (zac (zaj) (zak) rfl) rfl) rfl rfl rfl)) (zan (i:=4) nd34 rfl (.inl rfl) (.inl rfl)) rfl rfl rfl) (zaf (za5 (zao 31 C hr rfl T.f__law_take (zac (zad (i:=0) rfl (.inr (.inl rfl)) rfl rfl) (zac (zad (i:=2) rfl (.inl rfl) rfl rfl) (zak) rfl) rfl) rfl rfl rfl) (zan (i:=5) nd34 rfl (.inl rfl) (.inl rfl)) rfl rfl rfl) (zaf (za5 (zao 31 C hr rfl T.f__law_take (zac (zad (i:=0) rfl (.inr (.inl rfl)) rfl rfl) (zac (zad (i:=2) rfl (.inl rfl) rfl rfl) (zak) rfl) rfl) rfl rfl rfl) (zan (i:=6) nd34 rfl (.inl rfl) (.inl rfl)) rfl rfl rfl) (zaf (zbc (zbs hu .lt (zad (i:=3) rfl (.inl rfl) rfl rfl) (zaj) rfl) (zaf (zau (zcd (zac (zbr) (zac (zad (i:=5) rfl (.inl rfl) rfl rfl) (zac (zao 32 C hr rfl T.f__law_tab (zac (zad (i:=0) rfl (.inr (.inl rfl)) rfl rfl) (zac (zad (i:=1) rfl (.inr (.inl rfl)) rfl rfl) (zak) rfl) rfl) rfl rfl rfl) (zac (zad (i:=4) rfl (.inl rfl) rfl rfl) (zak) rfl) rfl) rfl) rfl))) (zal)) (zal)) (zaf (zbc (zbs hu .lt (zad (i:=3) rfl (.inl rfl) rfl rfl) (zaj) rfl) (zaf (zau (zcd (zac (zbr) (zac (zad (i:=5) rfl (.inl rfl) rfl rfl) (zac (zlp (zbs hu .eq (zad (i:=3) rfl (.inl rfl) rfl rfl) (zaj) rfl) (zap false .mod (zap false .add (zad (i:=5) rfl (.inl rfl) rfl rfl) (zaj)) (zad (i:=2) rfl (.inl rfl) rfl rfl)) (zad (i:=6) rfl (.inl rfl) rfl rfl)) (zac (zad (i:=4) rfl (.inl rfl) rfl rfl) (zak) rfl) rfl) rfl) rfl))) (zal)) (zal)) (zaf (zbc (zbs hu .eq (zad (i:=3) rfl (.inl rfl) rfl rfl) (zaj) rfl) (zaf (zau (zcd (zac (zbr) (zac (zad (i:=5) rfl (.inl rfl) rfl rfl) (zac (zao 31 C hr rfl T.f__law_take (zac (zad (i:=0) rfl (.inr (.inl rfl)) rfl rfl) (zac (zad (i:=1) rfl (.inr (.inl rfl)) rfl rfl) (zak) rfl) rfl) rfl rfl rfl) (zac (zad (i:=4) rfl (.inl rfl) rfl rfl) (zak) rfl) rfl) rfl) rfl))) (zal)) (zal)) (zaf (zau (zcd (zac (zbr) (zac (zad (i:=5) rfl (.inl rfl) rfl rfl) (zac (zad (i:=6) rfl (.inl rfl) rfl rfl) (zac (zge rfl T.b_tuple (zac (zez false (zcv (own:=["k"]) (bn:=["pen","words","places","kind","price","at","other"]) (sc:=zag zd1) (N:=["pen","words","places","kind","price","at","other"]) rfl rfl rfl (by decide +kernel)) rfl (zd6 (zad (i:=1) rfl (.inr (.inl rfl)) rfl rfl) rfl T.b_range rfl) (fun cl C0 fp s0 H0=>zan (i:=0) nd35 rfl (.inl rfl) (.inr rfl)) (fun cl C0 fp s0 H0=>zao 32 C hr rfl T.f__law_tab (zac (zad (i:=1) rfl (.inr (.inl rfl)) rfl rfl) (zac (zad (i:=2) rfl (.inr (.inl rfl)) rfl rfl) (zak) rfl) rfl) rfl rfl rfl) rfl (fun _=>rfl)) (zak) rfl) rfl rfl) (zac (zad (i:=4) rfl (.inl rfl) rfl rfl) (zak) rfl) rfl) rfl) rfl) rfl))) (zal)))))))))
theorem zl0:zbd ["pen","words","places","most","deeds","k","again","deed"] ["pen","words","places","most"] (zag zdj):=⟨rfl,rfl,rfl,zj7,rfl,by decide +kernel,by decide +kernel⟩
include T C in
theorem znc (hr:zbj n (A.deeper (envOfC "_law_machine" (zag zdj) s.heap.objs.size ad cdv))) :
    DSs fa (zb0 (CXE P w) P w K mg base ["pen","words","places","most","deeds","k","again","deed"] "_law_machine" (zag zdj) ad cdv A outer s H E) (za9 zdj) (zf7 c):=by
  have hu:(A.deeper (envOfC "_law_machine" (zag zdj) s.heap.objs.size ad cdv)).units+100 < cLine:=by have:=hr.un;omega
  exact unbox (zaf (za5 (zap false .add (zaj) (zao 31 C hr rfl T.f__law_take (zac (zad (i:=0) rfl (.inl rfl) rfl rfl) (zac (zap false .sub (zad (i:=1) rfl (.inl rfl) rfl rfl) (zaj)) (zak) rfl) rfl) rfl rfl rfl)) (zan (i:=1) zj7 rfl (.inl rfl) (.inl rfl)) rfl rfl rfl) (zaf (za5 (zap false .add (zaj) (zao 31 C hr rfl T.f__law_take (zac (zad (i:=0) rfl (.inl rfl) rfl rfl) (zac (zad (i:=2) rfl (.inl rfl) rfl rfl) (zak) rfl) rfl) rfl rfl rfl)) (zan (i:=2) zj7 rfl (.inl rfl) (.inl rfl)) rfl rfl rfl) (zaf (za5 (zch true (zak)) (zan (i:=4) zj7 rfl (.inl rfl) (.inl rfl)) rfl rfl rfl) (zaf (zi0 PassesOwn.leaving rfl (zd6 (zap false .add (zaj) (zao 31 C hr rfl T.f__law_take (zac (zad (i:=0) rfl (.inl rfl) rfl rfl) (zac (zad (i:=3) rfl (.inl rfl) rfl rfl) (zak) rfl) rfl) rfl rfl rfl)) rfl T.b_range rfl) (zan (i:=5) zj7 rfl (.inl rfl) (.inl rfl)) (zaf (za5 (zao 31 C hr rfl T.f__law_take (zac (zad (i:=0) rfl (.inl rfl) rfl rfl) (zac (zaj) (zak) rfl) rfl) rfl rfl rfl) (zan (i:=6) zj7 rfl (.inl rfl) (.inl rfl)) rfl rfl rfl) (zaf (za5 (zao 33 C hr rfl T.f__law_deed (zac (zad (i:=0) rfl (.inl rfl) rfl rfl) (zac (zad (i:=1) rfl (.inl rfl) rfl rfl) (zac (zad (i:=2) rfl (.inl rfl) rfl rfl) (zak) rfl) rfl) rfl) rfl rfl rfl) (zan (i:=7) zj7 rfl (.inl rfl) (.inl rfl)) rfl rfl rfl) (zaf (zbc (ze8 (zjy (zbs hu .eq (zad (i:=6) rfl (.inl rfl) rfl rfl) (zaj) rfl) (zmy (zbs hu .ne (zad (i:=4) rfl (.inl rfl) rfl rfl) (zch false (zak)) rfl)))) (zaf (za5 (zap false .add (zgo false false true (za7 (zad (i:=4) rfl (.inl rfl) rfl rfl) (zao 31 C hr rfl T.f__law_take (zac (zad (i:=0) rfl (.inl rfl) rfl rfl) (zac (zc5 rfl T.b_len (zac (zad (i:=4) rfl (.inl rfl) rfl rfl) (zak) rfl) rfl rfl) (zak) rfl) rfl) rfl rfl rfl) (fun _ _=>rfl)) (zfq) (zeu (zjw (zaj)))) (zcd (zac (za7 (zad (i:=7) rfl (.inl rfl) rfl rfl) (zjw (zaj)) (fun _ _=>rfl)) (zak) rfl))) (zan (i:=7) zj7 rfl (.inl rfl) (.inl rfl)) rfl rfl rfl) (zal)) (zal)) (zaf (zul (zad (i:=4) rfl (.inl rfl) rfl rfl) (zad (i:=7) rfl (.inl rfl) rfl rfl) rfl rfl rfl rfl) (zal))))) (fun _=>rfl)) (zaf (zau (zcd (zac (zad (i:=1) rfl (.inl rfl) rfl rfl) (zac (zad (i:=2) rfl (.inl rfl) rfl rfl) (zac (zge rfl T.b_tuple (zac (zad (i:=4) rfl (.inl rfl) rfl rfl) (zak) rfl) rfl rfl) (zak) rfl) rfl) rfl))) (zal))))))
theorem zm5:zbd ["machine"] ["machine"] (zag zc0):=⟨rfl,rfl,rfl,nd37,rfl,by decide +kernel,by decide +kernel⟩
include T C in
theorem zo1 (hr:zbj n (A.deeper (envOfC "_law_begins" (zag zc0) s.heap.objs.size ad cdv))) :
    DSs fa (zb0 (CXE P w) P w K mg base ["machine"] "_law_begins" (zag zc0) ad cdv A outer s H E) (za9 zc0) (zd9 c):=by
  have hu:(A.deeper (envOfC "_law_begins" (zag zc0) s.heap.objs.size ad cdv)).units+100 < cLine:=by have:=hr.un;omega
  exact unbox (zaf (zbc (zbs hu .eq (za7 (zad (i:=0) rfl (.inr (.inl rfl)) rfl rfl) (zaj) (fun _ _=>rfl)) (zaj) rfl) (zaf (zau (zez false (zcv (own:=["word"]) (bn:=["machine"]) (sc:=zag zc0) (N:=["machine"]) rfl rfl rfl (by decide +kernel)) rfl (zd6 (za7 (zad (i:=0) rfl (.inr (.inl rfl)) rfl rfl) (zaj) (fun _ _=>rfl)) rfl T.b_range rfl) (fun cl C0 fp s0 H0=>zan (i:=0) nd39 rfl (.inl rfl) (.inr rfl)) (fun cl C0 fp s0 H0=>zcd (zac (zad (i:=0) rfl (.inl rfl) rfl rfl) (zak) rfl)) rfl (fun _=>rfl))) (zal)) (zal)) (zaf (zau (zez false (zcv (own:=["k"]) (bn:=["machine"]) (sc:=zag zc0) (N:=["machine"]) rfl rfl rfl (by decide +kernel)) rfl (zd6 (zap false .mul (za7 (zad (i:=0) rfl (.inr (.inl rfl)) rfl rfl) (zaj) (fun _ _=>rfl)) (za7 (zad (i:=0) rfl (.inr (.inl rfl)) rfl rfl) (zaj) (fun _ _=>rfl))) rfl T.b_range rfl) (fun cl C0 fp s0 H0=>zan (i:=0) nd38 rfl (.inl rfl) (.inr rfl)) (fun cl C0 fp s0 H0=>zcd (zac (zap false .fdiv (zad (i:=0) rfl (.inl rfl) rfl rfl) (za7 (zad (i:=1) rfl (.inr (.inl rfl)) rfl rfl) (zaj) (fun _ _=>rfl))) (zac (zap false .mod (zad (i:=0) rfl (.inl rfl) rfl rfl) (za7 (zad (i:=1) rfl (.inr (.inl rfl)) rfl rfl) (zaj) (fun _ _=>rfl))) (zak) rfl) rfl)) rfl (fun _=>rfl))) (zal)))
theorem zox:zbd ["thing","low","high"] ["thing","low","high"] (zag zd8):=⟨rfl,rfl,rfl,nd40,rfl,by decide +kernel,by decide +kernel⟩
include T C in
theorem zqm (hr:zbj n (A.deeper (envOfC "_law_is_in" (zag zd8) s.heap.objs.size ad cdv))) :
    DSs fa (zb0 (CXE P w) P w K mg base ["thing","low","high"] "_law_is_in" (zag zd8) ad cdv A outer s H E) (za9 zd8) (zf0 c):=by
  have hu:(A.deeper (envOfC "_law_is_in" (zag zd8) s.heap.objs.size ad cdv)).units+100 < cLine:=by have:=hr.un;omega
  exact unbox (zaf (zau (zea (zao 67 C hr rfl T.f__law_is_whole (zac (zad (i:=0) rfl (.inl rfl) rfl rfl) (zak) rfl) rfl rfl rfl) (zfk (zum hu .le .le (zad (i:=1) rfl (.inl rfl) rfl rfl) (zad (i:=0) rfl (.inl rfl) rfl rfl) (zad (i:=2) rfl (.inl rfl) rfl rfl) rfl)))) (zal))
theorem zlz:zbd ["thing","many","low","high"] ["thing","many","low","high"] (zag zc2):=⟨rfl,rfl,rfl,nd41,rfl,by decide +kernel,by decide +kernel⟩
include T C in
theorem znb (hr:zbj n (A.deeper (envOfC "_law_numbers" (zag zc2) s.heap.objs.size ad cdv))) :
    DSs fa (zb0 (CXE P w) P w K mg base ["thing","many","low","high"] "_law_numbers" (zag zc2) ad cdv A outer s H E) (za9 zc2) (zf6 c):=by
  have hu:(A.deeper (envOfC "_law_numbers" (zag zc2) s.heap.objs.size ad cdv)).units+100 < cLine:=by have:=hr.un;omega
  exact unbox (zaf (zbc (ze8 (zef (zb9 (zbo (zb2 .tuple (fun _ h=>nomatch h) (zad (i:=0) rfl (.inl rfl) rfl rfl) rfl T.b_isinstance rfl T.b_tuple boot_tuple (by decide) rfl rfl) (fun _=>rfl))) (zeb (zbs hu .ne (zc5 rfl T.b_len (zac (zad (i:=0) rfl (.inl rfl) rfl rfl) (zak) rfl) rfl rfl) (zad (i:=1) rfl (.inl rfl) rfl rfl) rfl)))) (zaf (zau (zcy)) (zal)) (zal)) (zaf (zau (zfl hu .eq (zjx false (zcv (own:=["one"]) (bn:=["thing","many","low","high"]) (sc:=zag zc2) (N:=["thing","many","low","high"]) rfl rfl rfl (by decide +kernel)) rfl (zgz (zad (i:=0) rfl (.inl rfl) rfl rfl)) (fun cl C0 fp s0 H0=>zan (i:=0) nd42 rfl (.inl rfl) (.inr rfl)) (fun cl C0 fp s0 H0=>zb9 (zbo (zao 68 C hr rfl T.f__law_is_in (zac (zad (i:=0) rfl (.inl rfl) rfl rfl) (zac (zad (i:=3) rfl (.inr (.inl rfl)) rfl rfl) (zac (zad (i:=4) rfl (.inr (.inl rfl)) rfl rfl) (zak) rfl) rfl) rfl) rfl rfl rfl) (fun _=>rfl))) (fun cl C0 fp s0 H0=>zaj) rfl (fun _=>rfl)) (zch false (zak)) rfl)) (zal)))
theorem zl1:zbd ["thing","words","places"] ["thing","words","places"] (zag zc3):=⟨rfl,rfl,rfl,nd43,rfl,by decide +kernel,by decide +kernel⟩
include T C in
theorem znd (hr:zbj n (A.deeper (envOfC "_law_is_deed" (zag zc3) s.heap.objs.size ad cdv))) :
    DSs fa (zb0 (CXE P w) P w K mg base ["thing","words","places"] "_law_is_deed" (zag zc3) ad cdv A outer s H E) (za9 zc3) (zbi c):=by
  have hu:(A.deeper (envOfC "_law_is_deed" (zag zc3) s.heap.objs.size ad cdv)).units+100 < cLine:=by have:=hr.un;omega
  exact unbox (zaf (zbc (ze8 (zef (zb9 (zbo (zb2 .tuple (fun _ h=>nomatch h) (zad (i:=0) rfl (.inl rfl) rfl rfl) rfl T.b_isinstance rfl T.b_tuple boot_tuple (by decide) rfl rfl) (fun _=>rfl))) (zeb (zbs hu .notin (zc5 rfl T.b_len (zac (zad (i:=0) rfl (.inl rfl) rfl rfl) (zak) rfl) rfl rfl) (zcd (zac (zaj) (zac (zaj) (zak) rfl) rfl)) rfl)))) (zaf (zau (zcy)) (zal)) (zal)) (zaf (zbc (ze8 (zef (zbs hu .notin (za7 (zad (i:=0) rfl (.inl rfl) rfl rfl) (zaj) (fun _ _=>rfl)) (zcd (zac (zbr) (zac (zbr) (zac (zbr) (zac (zbr) (zak) rfl) rfl) rfl) rfl)) rfl) (zeb (zbs hu .ne (zfl hu .eq (zc5 rfl T.b_len (zac (zad (i:=0) rfl (.inl rfl) rfl rfl) (zak) rfl) rfl rfl) (zaj) rfl) (zfl hu .eq (za7 (zad (i:=0) rfl (.inl rfl) rfl rfl) (zaj) (fun _ _=>rfl)) (zbr) rfl) rfl)))) (zaf (zau (zcy)) (zal)) (zal)) (zaf (zbc (ze8 (zef (zb9 (zbo (zao 69 C hr rfl T.f__law_numbers (zac (zcd (zac (za7 (zad (i:=0) rfl (.inl rfl) rfl rfl) (zaj) (fun _ _=>rfl)) (zak) rfl)) (zac (zaj) (zac (zaj) (zac (zap false .sub (zad (i:=2) rfl (.inl rfl) rfl rfl) (zaj)) (zak) rfl) rfl) rfl) rfl) rfl rfl rfl) (fun _=>rfl))) (zeb (zb9 (zbo (zao 68 C hr rfl T.f__law_is_in (zac (za7 (zad (i:=0) rfl (.inl rfl) rfl rfl) (zjw (zaj)) (fun _ _=>rfl)) (zac (zaj) (zac (zaj) (zak) rfl) rfl) rfl) rfl rfl rfl) (fun _=>rfl)))))) (zaf (zau (zcy)) (zal)) (zal)) (zaf (zbc (zbs hu .eq (za7 (zad (i:=0) rfl (.inl rfl) rfl rfl) (zaj) (fun _ _=>rfl)) (zbr) rfl) (zaf (zau (zao 69 C hr rfl T.f__law_numbers (zac (za7 (zad (i:=0) rfl (.inl rfl) rfl rfl) (zaj) (fun _ _=>rfl)) (zac (zad (i:=1) rfl (.inr (.inl rfl)) rfl rfl) (zac (zaj) (zac (zap false .sub (zad (i:=1) rfl (.inr (.inl rfl)) rfl rfl) (zaj)) (zak) rfl) rfl) rfl) rfl) rfl rfl rfl)) (zal)) (zal)) (zaf (zbc (zbs hu .eq (za7 (zad (i:=0) rfl (.inl rfl) rfl rfl) (zaj) (fun _ _=>rfl)) (zbr) rfl) (zaf (zau (zao 68 C hr rfl T.f__law_is_in (zac (za7 (zad (i:=0) rfl (.inl rfl) rfl rfl) (zaj) (fun _ _=>rfl)) (zac (zaj) (zac (zap false .sub (zad (i:=1) rfl (.inr (.inl rfl)) rfl rfl) (zaj)) (zak) rfl) rfl) rfl) rfl rfl rfl)) (zal)) (zal)) (zaf (zbc (zb9 (zbo (zao 68 C hr rfl T.f__law_is_in (zac (za7 (zad (i:=0) rfl (.inl rfl) rfl rfl) (zaj) (fun _ _=>rfl)) (zac (zaj) (zac (zap false .sub (zad (i:=2) rfl (.inl rfl) rfl rfl) (zaj)) (zak) rfl) rfl) rfl) rfl rfl rfl) (fun _=>rfl))) (zaf (zau (zcy)) (zal)) (zal)) (zaf (zbc (zbs hu .eq (za7 (zad (i:=0) rfl (.inl rfl) rfl rfl) (zaj) (fun _ _=>rfl)) (zbr) rfl) (zaf (zau (zcy)) (zal)) (zal)) (zaf (zbc (ze8 (zef (zb9 (zbo (zb2 .tuple (fun _ h=>nomatch h) (za7 (zad (i:=0) rfl (.inl rfl) rfl rfl) (zaj) (fun _ _=>rfl)) rfl T.b_isinstance rfl T.b_tuple boot_tuple (by decide) rfl rfl) (fun _=>rfl))) (zeb (zbs hu .ne (zc5 rfl T.b_len (zac (za7 (zad (i:=0) rfl (.inl rfl) rfl rfl) (zaj) (fun _ _=>rfl)) (zak) rfl) rfl rfl) (zad (i:=1) rfl (.inr (.inl rfl)) rfl rfl) rfl)))) (zaf (zau (zcy)) (zal)) (zal)) (zaf (zau (zfl hu .eq (zjx false (zcv (own:=["one"]) (bn:=["thing","words","places"]) (sc:=zag zc3) (N:=["thing","words","places"]) rfl rfl rfl (by decide +kernel)) rfl (zgz (za7 (zad (i:=0) rfl (.inl rfl) rfl rfl) (zaj) (fun _ _=>rfl))) (fun cl C0 fp s0 H0=>zan (i:=0) nd44 rfl (.inl rfl) (.inr rfl)) (fun cl C0 fp s0 H0=>zb9 (zbo (zao 69 C hr rfl T.f__law_numbers (zac (zad (i:=0) rfl (.inl rfl) rfl rfl) (zac (zad (i:=2) rfl (.inr (.inl rfl)) rfl rfl) (zac (zaj) (zac (zap false .sub (zad (i:=2) rfl (.inr (.inl rfl)) rfl rfl) (zaj)) (zak) rfl) rfl) rfl) rfl) rfl rfl rfl) (fun _=>rfl))) (fun cl C0 fp s0 H0=>zaj) rfl (fun _=>rfl)) (zch false (zak)) rfl)) (zal))))))))))
theorem zj2:zbd ["thing"] ["thing"] (zag zcl):=⟨rfl,rfl,rfl,nd45,rfl,by decide +kernel,by decide +kernel⟩
include T C in
theorem zk1 (hr:zbj n (A.deeper (envOfC "_law_is_machine" (zag zcl) s.heap.objs.size ad cdv))) :
    DSs fa (zb0 (CXE P w) P w K mg base ["thing"] "_law_is_machine" (zag zcl) ad cdv A outer s H E) (za9 zcl) (zee c):=by
  have hu:(A.deeper (envOfC "_law_is_machine" (zag zcl) s.heap.objs.size ad cdv)).units+100 < cLine:=by have:=hr.un;omega
  exact unbox (zaf (zbc (ze8 (zef (zb9 (zbo (zb2 .tuple (fun _ h=>nomatch h) (zad (i:=0) rfl (.inr (.inl rfl)) rfl rfl) rfl T.b_isinstance rfl T.b_tuple boot_tuple (by decide) rfl rfl) (fun _=>rfl))) (zef (zbs hu .ne (zc5 rfl T.b_len (zac (zad (i:=0) rfl (.inr (.inl rfl)) rfl rfl) (zak) rfl) rfl rfl) (zaj) rfl) (zeb (zb9 (zbo (zao 68 C hr rfl T.f__law_is_in (zac (za7 (zad (i:=0) rfl (.inr (.inl rfl)) rfl rfl) (zaj) (fun _ _=>rfl)) (zac (zaj) (zac (zaj) (zak) rfl) rfl) rfl) rfl rfl rfl) (fun _=>rfl))))))) (zaf (zau (zcy)) (zal)) (zal)) (zaf (zbc (ze8 (zef (zb9 (zbo (zao 68 C hr rfl T.f__law_is_in (zac (za7 (zad (i:=0) rfl (.inr (.inl rfl)) rfl rfl) (zaj) (fun _ _=>rfl)) (zac (zaj) (zac (zaj) (zak) rfl) rfl) rfl) rfl rfl rfl) (fun _=>rfl))) (zef (zb9 (zbo (zb2 .tuple (fun _ h=>nomatch h) (za7 (zad (i:=0) rfl (.inr (.inl rfl)) rfl rfl) (zaj) (fun _ _=>rfl)) rfl T.b_isinstance rfl T.b_tuple boot_tuple (by decide) rfl rfl) (fun _=>rfl))) (zeb (zb9 (zun hu .le .le (zaj) (zc5 rfl T.b_len (zac (za7 (zad (i:=0) rfl (.inr (.inl rfl)) rfl rfl) (zaj) (fun _ _=>rfl)) (zak) rfl) rfl rfl) (zaj) rfl)))))) (zaf (zau (zcy)) (zal)) (zal)) (zaf (zau (zfl hu .eq (zjx false (zcv (own:=["deed"]) (bn:=["thing"]) (sc:=zag zcl) (N:=["thing"]) rfl rfl rfl (by decide +kernel)) rfl (zgz (za7 (zad (i:=0) rfl (.inr (.inl rfl)) rfl rfl) (zaj) (fun _ _=>rfl))) (fun cl C0 fp s0 H0=>zan (i:=0) nd46 rfl (.inl rfl) (.inr rfl)) (fun cl C0 fp s0 H0=>zb9 (zbo (zao 70 C hr rfl T.f__law_is_deed (zac (zad (i:=0) rfl (.inl rfl) rfl rfl) (zac (za7 (zad (i:=1) rfl (.inr (.inl rfl)) rfl rfl) (zaj) (fun _ _=>rfl)) (zac (za7 (zad (i:=1) rfl (.inr (.inl rfl)) rfl rfl) (zaj) (fun _ _=>rfl)) (zak) rfl) rfl) rfl) rfl rfl rfl) (fun _=>rfl))) (fun cl C0 fp s0 H0=>zaj) rfl (fun _=>rfl)) (zch false (zak)) rfl)) (zal))))
theorem zp7:zbd ["pen","thing","deep","kind","pick","number","at","odd","some"] ["pen","thing","deep"] (zag zen):=⟨rfl,rfl,rfl,zj6,rfl,by decide +kernel,by decide +kernel⟩
include T C in
theorem zr0 (hr:zbj n (A.deeper (envOfC "_law_bent" (zag zen) s.heap.objs.size ad cdv))) :
    DSs fa (zb0 (CXE P w) P w K mg base ["pen","thing","deep","kind","pick","number","at","odd","some"] "_law_bent" (zag zen) ad cdv A outer s H E) (za9 zen) (ziy c):=by
  have hu:(A.deeper (envOfC "_law_bent" (zag zen) s.heap.objs.size ad cdv)).units+100 < cLine:=by have:=hr.un;omega
  exact unbox (zaf (za5 (zao 31 C hr rfl T.f__law_take (zac (zad (i:=0) rfl (.inl rfl) rfl rfl) (zac (zaj) (zak) rfl) rfl) rfl rfl rfl) (zan (i:=3) zj6 rfl (.inl rfl) (.inl rfl)) rfl rfl rfl) (zaf (za5 (zao 31 C hr rfl T.f__law_take (zac (zad (i:=0) rfl (.inl rfl) rfl rfl) (zac (zaj) (zak) rfl) rfl) rfl rfl rfl) (zan (i:=4) zj6 rfl (.inl rfl) (.inl rfl)) rfl rfl rfl) (zaf (za5 (zap false .sub (zao 31 C hr rfl T.f__law_take (zac (zad (i:=0) rfl (.inl rfl) rfl rfl) (zac (zaj) (zak) rfl) rfl) rfl rfl rfl) (zaj)) (zan (i:=5) zj6 rfl (.inl rfl) (.inl rfl)) rfl rfl rfl) (zaf (zbc (ze8 (zjy (zbo (zb2 .tuple (fun _ h=>nomatch h) (zad (i:=1) rfl (.inl rfl) rfl rfl) rfl T.b_isinstance rfl T.b_tuple boot_tuple (by decide) rfl rfl) (fun _=>rfl)) (zjy (zbs hu .ne (zad (i:=1) rfl (.inl rfl) rfl rfl) (zcd (zak)) rfl) (zjy (zbs hu .gt (zad (i:=2) rfl (.inl rfl) rfl rfl) (zaj) rfl) (zmy (zbs hu .gt (zad (i:=4) rfl (.inl rfl) rfl rfl) (zaj) rfl)))))) (zaf (za5 (zao 31 C hr rfl T.f__law_take (zac (zad (i:=0) rfl (.inl rfl) rfl rfl) (zac (zc5 rfl T.b_len (zac (zad (i:=1) rfl (.inl rfl) rfl rfl) (zak) rfl) rfl rfl) (zak) rfl) rfl) rfl rfl rfl) (zan (i:=6) zj6 rfl (.inl rfl) (.inl rfl)) rfl rfl rfl) (zaf (zau (zap false .add (zap false .add (zgo false false true (zad (i:=1) rfl (.inl rfl) rfl rfl) (zfq) (zeu (zad (i:=6) rfl (.inl rfl) rfl rfl))) (zcd (zac (zao 72 C hr rfl T.f__law_bent (zac (zad (i:=0) rfl (.inl rfl) rfl rfl) (zac (za7 (zad (i:=1) rfl (.inl rfl) rfl rfl) (zad (i:=6) rfl (.inl rfl) rfl rfl) (fun _ _=>rfl)) (zac (zap false .sub (zad (i:=2) rfl (.inl rfl) rfl rfl) (zaj)) (zak) rfl) rfl) rfl) rfl rfl rfl) (zak) rfl))) (zgo false true false (zad (i:=1) rfl (.inl rfl) rfl rfl) (zeu (zap false .add (zad (i:=6) rfl (.inl rfl) rfl rfl) (zaj))) (zfq)))) (zal))) (zal)) (zaf (za5 (zch false (zac (zi1) (zac (zcy) (zac (zcy) (zac (zbr) (zac (zbr) (zac (zbr) (zac (zbr) (zac (zbr) (zac (zbr) (zac (zcd (zak)) (zac (zch false (zak)) (zac (zap false .pow (zaj) (zaj)) (zac (zjw (zaj)) (zac (zaj) (zak) rfl) rfl) rfl) rfl) rfl) rfl) rfl) rfl) rfl) rfl) rfl) rfl) rfl) rfl)) (zan (i:=7) zj6 rfl (.inl rfl) (.inl rfl)) rfl rfl rfl) (zaf (za5 (zap false .add (zad (i:=7) rfl (.inl rfl) rfl rfl) (zch false (zac (zaj) (zac (zaj) (zac (zcd (zac (zaj) (zak) rfl)) (zac (zch false (zac (zaj) (zak) rfl)) (zac (zbr) (zac (zaj) (zak) rfl) rfl) rfl) rfl) rfl) rfl))) (zan (i:=7) zj6 rfl (.inl rfl) (.inl rfl)) rfl rfl rfl) (zaf (zbc (zbo (zb2 .tuple (fun _ h=>nomatch h) (zad (i:=1) rfl (.inl rfl) rfl rfl) rfl T.b_isinstance rfl T.b_tuple boot_tuple (by decide) rfl rfl) (fun _=>rfl)) (zaf (za5 (zch false (zac (zr6 false rfl T.b_list (zac (zad (i:=1) rfl (.inl rfl) rfl rfl) (zak) rfl) rfl rfl) (zac (zap false .add (zad (i:=1) rfl (.inl rfl) rfl rfl) (zgo false false true (zad (i:=1) rfl (.inl rfl) rfl rfl) (zfq) (zeu (zaj)))) (zac (zgo false false true (zad (i:=1) rfl (.inl rfl) rfl rfl) (zfq) (zeu (zjw (zaj)))) (zac (xr_rev false (zad (i:=1) rfl (.inl rfl) rfl rfl)) (zac (zap false .add (zad (i:=1) rfl (.inl rfl) rfl rfl) (zcd (zac (zad (i:=5) rfl (.inl rfl) rfl rfl) (zak) rfl))) (zac (zgo false true false (zad (i:=1) rfl (.inl rfl) rfl rfl) (zeu (zaj)) (zfq)) (zac (zcd (zac (zad (i:=1) rfl (.inl rfl) rfl rfl) (zak) rfl)) (zak) rfl) rfl) rfl) rfl) rfl) rfl) rfl)) (zan (i:=8) zj6 rfl (.inl rfl) (.inl rfl)) rfl rfl rfl) (zaf (zau (za7 (zap false .add (zad (i:=8) rfl (.inl rfl) rfl rfl) (zch false (zac (za7 (zad (i:=7) rfl (.inl rfl) rfl rfl) (zad (i:=4) rfl (.inl rfl) rfl rfl) (fun _ _=>rfl)) (zak) rfl))) (zad (i:=3) rfl (.inl rfl) rfl rfl) (fun _ _=>rfl))) (zal))) (zal)) (zaf (zbc (zbo (zao 67 C hr rfl T.f__law_is_whole (zac (zad (i:=1) rfl (.inl rfl) rfl rfl) (zak) rfl) rfl rfl rfl) (fun _=>rfl)) (zaf (zau (za7 (zch false (zac (zap false .add (zad (i:=1) rfl (.inl rfl) rfl rfl) (zaj)) (zac (zap false .sub (zad (i:=1) rfl (.inl rfl) rfl rfl) (zaj)) (zac (zap false .sub (zaj) (zad (i:=1) rfl (.inl rfl) rfl rfl)) (zac (zad (i:=5) rfl (.inl rfl) rfl rfl) (zac (zad (i:=5) rfl (.inl rfl) rfl rfl) (zac (zfl hu .eq (zad (i:=1) rfl (.inl rfl) rfl rfl) (zaj) rfl) (zac (zap false .sub (zaj) (zad (i:=1) rfl (.inl rfl) rfl rfl)) (zac (za7 (zad (i:=7) rfl (.inl rfl) rfl rfl) (zad (i:=4) rfl (.inl rfl) rfl rfl) (fun _ _=>rfl)) (zak) rfl) rfl) rfl) rfl) rfl) rfl) rfl) rfl)) (zad (i:=3) rfl (.inl rfl) rfl rfl) (fun _ _=>rfl))) (zal)) (zal)) (zaf (zbc (ze8 (zjy (zbo (zb2 .str (fun _ h=>nomatch h) (zad (i:=1) rfl (.inl rfl) rfl rfl) rfl T.b_isinstance rfl T.b_str boot_str (by decide) rfl rfl) (fun _=>rfl)) (zmy (zbs hu .lt (zad (i:=3) rfl (.inl rfl) rfl rfl) (zaj) rfl)))) (zaf (zau (zao 66 C hr rfl T.f__law_signed (zac (zad (i:=0) rfl (.inl rfl) rfl rfl) (zac (zad (i:=1) rfl (.inl rfl) rfl rfl) (zak) rfl) rfl) rfl rfl rfl)) (zal)) (zal)) (zaf (zau (za7 (zad (i:=7) rfl (.inl rfl) rfl rfl) (zad (i:=4) rfl (.inl rfl) rfl rfl) (fun _ _=>rfl))) (zal)))))))))))
theorem zly:zbd ["caught","some","words"] ["caught"] (zag zdi):=⟨rfl,rfl,rfl,zlh,rfl,by decide +kernel,by decide +kernel⟩
include T C in
theorem zna (hr:zbj n (A.deeper (envOfC "_law_refusal" (zag zdi) s.heap.objs.size ad cdv))) :
    DSs fa (zb0 (CXE P w) P w K mg base ["caught","some","words"] "_law_refusal" (zag zdi) ad cdv A outer s H E) (za9 zdi) (zdx c):=by
  have hu:(A.deeper (envOfC "_law_refusal" (zag zdi) s.heap.objs.size ad cdv)).units+100 < cLine:=by have:=hr.un;omega
  exact unbox (zaf (za5 (zch false (zac (zdg 0 T.xc T.k_NoRow (zad (i:=0) rfl (.inl rfl) rfl rfl) rfl T.b_isinstance rfl rfl rfl) (zac (zdg 1 T.xc T.k_NoRule (zad (i:=0) rfl (.inl rfl) rfl rfl) rfl T.b_isinstance rfl rfl rfl) (zac (zdg 2 T.xc T.k_NoStep (zad (i:=0) rfl (.inl rfl) rfl rfl) rfl T.b_isinstance rfl rfl rfl) (zak) rfl) rfl) rfl)) (zan (i:=1) zlh rfl (.inl rfl) (.inl rfl)) rfl rfl rfl) (zaf (za5 (zap false .add (zad (i:=1) rfl (.inl rfl) rfl rfl) (zch false (zac (zdg 3 T.xc T.k_NoMachine (zad (i:=0) rfl (.inl rfl) rfl rfl) rfl T.b_isinstance rfl rfl rfl) (zac (zdg 4 T.xc T.k_TooLong (zad (i:=0) rfl (.inl rfl) rfl rfl) rfl T.b_isinstance rfl rfl rfl) (zac (zdg 5 T.xc T.k_NoWord (zad (i:=0) rfl (.inl rfl) rfl rfl) rfl T.b_isinstance rfl rfl rfl) (zak) rfl) rfl) rfl))) (zan (i:=1) zlh rfl (.inl rfl) (.inl rfl)) rfl rfl rfl) (zaf (za5 (zap false .add (zad (i:=1) rfl (.inl rfl) rfl rfl) (zch false (zac (zdg 6 T.xc T.k_NoWork (zad (i:=0) rfl (.inl rfl) rfl rfl) rfl T.b_isinstance rfl rfl rfl) (zac (zdg 7 T.xc T.k_NoBound (zad (i:=0) rfl (.inl rfl) rfl rfl) rfl T.b_isinstance rfl rfl rfl) (zac (zdg 8 T.xc T.k_TooMany (zad (i:=0) rfl (.inl rfl) rfl rfl) rfl T.b_isinstance rfl rfl rfl) (zak) rfl) rfl) rfl))) (zan (i:=1) zlh rfl (.inl rfl) (.inl rfl)) rfl rfl rfl) (zaf (za5 (zap false .add (zad (i:=1) rfl (.inl rfl) rfl rfl) (zch false (zac (zdg 9 T.xc T.k_NoPlace (zad (i:=0) rfl (.inl rfl) rfl rfl) rfl T.b_isinstance rfl rfl rfl) (zac (zdg 10 T.xc T.k_NoDeed (zad (i:=0) rfl (.inl rfl) rfl rfl) rfl T.b_isinstance rfl rfl rfl) (zac (zdg 11 T.xc T.k_Nothing (zad (i:=0) rfl (.inl rfl) rfl rfl) rfl T.b_isinstance rfl rfl rfl) (zak) rfl) rfl) rfl))) (zan (i:=1) zlh rfl (.inl rfl) (.inl rfl)) rfl rfl rfl) (zaf (za5 (zap false .add (zad (i:=1) rfl (.inl rfl) rfl rfl) (zch false (zac (zdg 12 T.xc T.k_NoText (zad (i:=0) rfl (.inl rfl) rfl rfl) rfl T.b_isinstance rfl rfl rfl) (zac (zdg 13 T.xc T.k_NoLine (zad (i:=0) rfl (.inl rfl) rfl rfl) rfl T.b_isinstance rfl rfl rfl) (zak) rfl) rfl))) (zan (i:=1) zlh rfl (.inl rfl) (.inl rfl)) rfl rfl rfl) (zaf (zbc (ze8 (zef (zbs hu .ne (zz5 (zad (i:=1) rfl (.inl rfl) rfl rfl) rfl rfl) (zaj) rfl) (zef (zb9 (zbo (zw1 T.xc T.k_DeedError (zad (i:=0) rfl (.inl rfl) rfl rfl) rfl T.b_isinstance rfl rfl rfl) (fun _=>rfl))) (zeb (zb9 (zbo (zw0 T.xc (zad (i:=0) rfl (.inl rfl) rfl rfl) rfl T.b_isinstance rfl T.b_ValueError rfl) (fun _=>rfl))))))) (zaf (zau (zch false (zac (zbr) (zak) rfl))) (zal)) (zal)) (zaf (zbc (zbo (za7 (zad (i:=1) rfl (.inl rfl) rfl rfl) (zaj) (fun _ _=>rfl)) (fun _=>rfl)) (zaf (zau (zch false (zac (zbr) (zac (zpm) (zak) rfl) rfl))) (zal)) (zal)) (zaf (zbc (zbo (za7 (zad (i:=1) rfl (.inl rfl) rfl rfl) (zaj) (fun _ _=>rfl)) (fun _=>rfl)) (zaf (zau (zch false (zac (zbr) (zac (zpm) (zak) rfl) rfl))) (zal)) (zal)) (zaf (zbc (zbo (za7 (zad (i:=1) rfl (.inl rfl) rfl rfl) (zaj) (fun _ _=>rfl)) (fun _=>rfl)) (zaf (zau (zch false (zac (zbr) (zac (zpm) (zak) rfl) rfl))) (zal)) (zal)) (zaf (za5 (zch false (zac (zbr) (zac (zbr) (zac (zbr) (zac (zbr) (zac (zbr) (zac (zbr) (zac (zbr) (zac (zbr) (zac (zbr) (zac (zbr) (zac (zbr) (zak) rfl) rfl) rfl) rfl) rfl) rfl) rfl) rfl) rfl) rfl) rfl)) (zan (i:=2) zlh rfl (.inl rfl) (.inl rfl)) rfl rfl rfl) (zaf (zau (zch false (zac (za7 (zad (i:=2) rfl (.inl rfl) rfl rfl) (zap false .sub (zz4 (zad (i:=1) rfl (.inl rfl) rfl rfl) rfl rfl) (zaj)) (fun _ _=>rfl)) (zak) rfl))) (zal))))))))))))
theorem zp2:zbd ["thing","caught","found","e"] ["thing"] (zag zek):=⟨rfl,rfl,rfl,nd49,rfl,by decide +kernel,by decide +kernel⟩
include T C in
theorem zrv (hr:zbj n (A.deeper (envOfC "_law_told" (zag zek) s.heap.objs.size ad cdv))) :
    DSs fa (zb0 (CXE P w) P w K mg base ["thing","caught","found","e"] "_law_told" (zag zek) ad cdv A outer s H E) (za9 zek) (ze2 c):=by
  have hu:(A.deeper (envOfC "_law_told" (zag zek) s.heap.objs.size ad cdv)).units+100 < cLine:=by have:=hr.un;omega
  exact unbox (zaf (za5 (zi1) (zan (i:=1) nd49 rfl (.inl rfl) (.inl rfl)) rfl rfl rfl) (zaf (za5 (zi1) (zan (i:=2) nd49 rfl (.inl rfl) (.inl rfl)) rfl rfl rfl) (zaf (xs_try T.xc T.k_DeedError rfl rfl rfl nd49 rfl rfl rfl rfl (fun pn Ex=>zaf (zz3 (zr4 74 C hr rfl rfl T.f_beginnings (zac (zad (i:=0) rfl (.inl rfl) rfl rfl) (zak) rfl) rfl rfl rfl) (zan (i:=2) nd49 rfl (.inl rfl) (.inl rfl)) rfl rfl rfl) (zal)) (fun vx Ex=>zaf (za5 (zad (i:=3) rfl (.inl rfl) rfl rfl) (zan (i:=1) nd49 rfl (.inl rfl) (.inl rfl)) rfl rfl rfl) (zal))) (zaf (zau (zlp (zbs hu .isN (zad (i:=1) rfl (.inl rfl) rfl rfl) (zi1) rfl) (zad (i:=2) rfl (.inl rfl) rfl rfl) (zge rfl T.b_tuple (zac (zao 75 C hr rfl T.f__law_refusal (zac (zad (i:=1) rfl (.inl rfl) rfl rfl) (zak) rfl) rfl rfl rfl) (zak) rfl) rfl rfl))) (zal)))))
theorem zu9:zbd ["script","pen","turn","machine","again","found","k","thing","due"] ["script"] (zag zh5):=⟨rfl,rfl,rfl,zjj,rfl,by decide +kernel,by decide +kernel⟩
include T C in
theorem p_law (hr:zbj n (A.deeper (envOfC "law" (zag zh5) s.heap.objs.size ad cdv))) :
    DSs fa (zb0 (CXE P w) P w K mg base ["script","pen","turn","machine","again","found","k","thing","due"] "law" (zag zh5) ad cdv A outer s H E) (za9 zh5) (zkz c):=by
  have hu:(A.deeper (envOfC "law" (zag zh5) s.heap.objs.size ad cdv)).units+100 < cLine:=by have:=hr.un;omega
  exact unbox (zaf (za5 (zao 29 C hr rfl T.f__law_open (zac (zad (i:=0) rfl (.inl rfl) rfl rfl) (zak) rfl) rfl rfl rfl) (zan (i:=1) zjj rfl (.inl rfl) (.inl rfl)) rfl rfl rfl) (zaf (zi0 PassesOwn.leaving rfl (zd6 (zaj) rfl T.b_range rfl) (zan (i:=2) zjj rfl (.inl rfl) (.inl rfl)) (zaf (za5 (zao 34 C hr rfl T.f__law_machine (zac (zao 30 C hr rfl T.f__law_anew (zac (zad (i:=1) rfl (.inl rfl) rfl rfl) (zak) rfl) rfl rfl rfl) (zac (zaj) (zac (zaj) (zac (zaj) (zak) rfl) rfl) rfl) rfl) rfl rfl rfl) (zan (i:=3) zjj rfl (.inl rfl) (.inl rfl)) rfl rfl rfl) (zaf (zi0 PassesOwn.leaving rfl (zd6 (zaj) rfl T.b_range rfl) (zan (i:=4) zjj rfl (.inl rfl) (.inl rfl)) (zaf (za5 (zao 76 C hr rfl T.f__law_told (zac (zad (i:=3) rfl (.inl rfl) rfl rfl) (zak) rfl) rfl rfl rfl) (zan (i:=5) zjj rfl (.inl rfl) (.inl rfl)) rfl rfl rfl) (zaf (zbc (zb9 (zbo (zao 40 C hr rfl T.f__law_same (zac (zad (i:=5) rfl (.inl rfl) rfl rfl) (zac (zao 42 C hr rfl T.f__law_begins (zac (zad (i:=3) rfl (.inl rfl) rfl rfl) (zak) rfl) rfl rfl rfl) (zak) rfl) rfl) rfl rfl rfl) (fun _=>rfl))) (zaf (zau (zcy)) (zal)) (zal)) (zaf (zul (zad (i:=5) rfl (.inl rfl) rfl rfl) (zcd (zac (zaj) (zak) rfl)) rfl rfl rfl rfl) (zal)))) (fun _=>rfl)) (zaf (zi0 PassesOwn.leaving rfl (zd6 (zaj) rfl T.b_range rfl) (zan (i:=6) zjj rfl (.inl rfl) (.inl rfl)) (zaf (za5 (zao 72 C hr rfl T.f__law_bent (zac (zad (i:=1) rfl (.inl rfl) rfl rfl) (zac (zad (i:=3) rfl (.inl rfl) rfl rfl) (zac (zaj) (zak) rfl) rfl) rfl) rfl rfl rfl) (zan (i:=7) zjj rfl (.inl rfl) (.inl rfl)) rfl rfl rfl) (zaf (za5 (zlp (zbo (zao 71 C hr rfl T.f__law_is_machine (zac (zad (i:=7) rfl (.inl rfl) rfl rfl) (zak) rfl) rfl rfl rfl) (fun _=>rfl)) (zao 42 C hr rfl T.f__law_begins (zac (zad (i:=7) rfl (.inl rfl) rfl rfl) (zak) rfl) rfl rfl rfl) (zcd (zac (zbr) (zak) rfl))) (zan (i:=8) zjj rfl (.inl rfl) (.inl rfl)) rfl rfl rfl) (zaf (zbc (zb9 (zbo (zao 40 C hr rfl T.f__law_same (zac (zao 76 C hr rfl T.f__law_told (zac (zad (i:=7) rfl (.inl rfl) rfl rfl) (zak) rfl) rfl rfl rfl) (zac (zad (i:=8) rfl (.inl rfl) rfl rfl) (zak) rfl) rfl) rfl rfl rfl) (fun _=>rfl))) (zaf (zau (zcy)) (zal)) (zal)) (zal)))) (fun _=>rfl)) (zal)))) (fun _=>rfl)) (zaf (zau (zao 40 C hr rfl T.f__law_same (zac (zao 74 C hr rfl T.f_beginnings (zac (zcd (zac (zaj) (zac (zaj) (zac (zcd (zac (zcd (zac (zbr) (zac (zaj) (zac (zaj) (zac (zaj) (zak) rfl) rfl) rfl) rfl)) (zak) rfl)) (zak) rfl) rfl) rfl)) (zak) rfl) rfl rfl rfl) (zac (zch false (zac (zcd (zac (zaj) (zac (zaj) (zak) rfl) rfl)) (zac (zcd (zac (zaj) (zac (zaj) (zak) rfl) rfl)) (zac (zcd (zac (zaj) (zac (zaj) (zak) rfl) rfl)) (zac (zcd (zac (zaj) (zac (zaj) (zak) rfl) rfl)) (zak) rfl) rfl) rfl) rfl)) (zak) rfl) rfl) rfl rfl rfl)) (zal))))
end
end K02
namespace K02
open PySem PySem.Spec PyProof.Rows L2 LD
theorem zym:∀ ns:List Int,ns.length≤63->∃ M,zaq Pg 40 77 [.frz (ns.map D.int)] []=.ok (.bl true) M:=law02 (by repeat' (first | rfl | constructor))
abbrev faOf (l:List (Nat×Addr)):Fa:=LD.faX l [(0,44),(1,63),(2,82),(3,94),(4,106),(5,118),(6,130),(7,142),(8,154),(9,166),(10,178),(11,190),(12,202),(13,214)] 24
section
variable {P:Program}{w:World}{K:PySem.W.Frag}{mg:Str->Option Value}{base:Heap}{f0 f1 f2 f3 f4 f5 f6 f7 f8 f9 f10 f11 f12 f13 f74 f28 f29 f30 f31 f64 f65 f66 f67 f40 f32 f33 f34 f42 f68 f69 f70 f71 f72 f75 f76 f77:Addr}{fd0 fd1 fd2 fd3 fd4 fd5 fd6 fd7 fd8 fd9 fd10 fd11 fd12 fd13 fd74 fd28 fd29 fd30 fd31 fd64 fd65 fd66 fd67 fd40 fd32 fd33 fd34 fd42 fd68 fd69 fd70 fd71 fd72 fd75 fd76 fd77:FuncData}
theorem zg1 {F:FuncData}{z:List Str} (h:∀ a:Value,bindArgs F ⟨[a],[]⟩=pure (z.zip [a])):∀ us:List Value,us.length=1->bindArgs F ⟨us,[]⟩=pure (z.zip us):=LD.us1 h
theorem zh3 {F:FuncData}{z:List Str} (h:∀ a b:Value,bindArgs F ⟨[a,b],[]⟩=pure (z.zip [a,b])):∀ us:List Value,us.length=2->bindArgs F ⟨us,[]⟩=pure (z.zip us):=LD.us2 h
theorem ziq {F:FuncData}{z:List Str} (h:∀ a b c:Value,bindArgs F ⟨[a,b,c],[]⟩=pure (z.zip [a,b,c])):∀ us:List Value,us.length=3->bindArgs F ⟨us,[]⟩=pure (z.zip us):=LD.us3 h
theorem usb4 {F:FuncData}{z:List Str} (h:∀ a b c d:Value,bindArgs F ⟨[a,b,c,d],[]⟩=pure (z.zip [a,b,c,d])):∀ us:List Value,us.length=4->bindArgs F ⟨us,[]⟩=pure (z.zip us):=LD.us4 h
theorem mkf {h:Heap} (x:Str) (st:PySem.Stmt) (f c:Addr) (pm:Str) (t:Tok) (X:K.In h) (G:h.Ns mainGlobals mg) (a:PySem.W.nsIn K mainGlobals x=some (some (.ref f))) (l:K.lookup f=some ⟨.type "function",none,.func (PySem.W.fnOf x x (zhx st) (za9 st) (zag st) .none .none .none (.str pm t) none (.ref c) .none),#[]⟩) (e:PySem.W.codeIn K (.ref c) x=true) (k:PySem.W.keepIn K (.ref f)=true):∃ f fd,mg x=some (.ref f) /\ Fun K x x st f fd:=LD.mk_fn X G a l e k
theorem mkd {k i j:Nat}{b:Call->GS}{ps ns:List Str}{st:PySem.Stmt}{x:Str}{fa:Fa}{f:Addr}{fd:FuncData} (sc:zbd ns ps (zag st)) (hf:fa k=some f) (F:Fun K x x st f fd) (hb:Binds K fd ps []) (h1:i=ps.length) (h2:j=ns.length)
    (p:∀ (c:Call) (n:Nat) (cdv:Value) (A:Around) (outer:List PySem.Env) (s:Shared) (H:Hp) (E:XK),(∀ f,ze7 fa P w K mg base n f (c f))->zbj n (A.deeper (envOfC x (zag st) s.heap.objs.size f cdv))->DSs fa (zb0 (CXE P w) P w K mg base ns x (zag st) f cdv A outer s H E) (za9 st) (b c)):zpj fa P w K mg base k ⟨i,j,b⟩:=⟨f,fd,ps,ns,st,x,x,hf,F,hb,sc,h1,h2,p⟩
set_option maxHeartbeats 0 in
theorem z2a (F0:Fun K "is_between" "is_between" zd7 f0 fd0) (F1:Fun K "is_word" "is_word" zfa f1 fd1) (F2:Fun K "is_place" "is_place" ze0 f2 fd2) (F3:Fun K "is_cost" "is_cost" zff f3 fd3) (F4:Fun K "is_tuple_of" "is_tuple_of" zds f4 fd4) (F5:Fun K "is_table" "is_table" zej f5 fd5) (F6:Fun K "is_double_table" "is_double_table" zck f6 fd6) (F7:Fun K "is_turn" "is_turn" zfb f7 fd7) (F8:Fun K "is_join" "is_join" zfd f8 fd8) (F9:Fun K "is_move" "is_move" zfc f9 fd9) (F10:Fun K "is_put" "is_put" zfv f10 fd10) (F11:Fun K "is_deed" "is_deed" zfe f11 fd11) (F12:Fun K "is_machine" "is_machine" zdo f12 fd12) (F13:Fun K "need_machine" "need_machine" zdh f13 fd13) (F74:Fun K "beginnings" "beginnings" zdp f74 fd74) (F28:Fun K "_law_spread" "_law_spread" zdt f28 fd28) (F29:Fun K "_law_open" "_law_open" zem f29 fd29) (F30:Fun K "_law_anew" "_law_anew" zeo f30 fd30) (F31:Fun K "_law_take" "_law_take" zel f31 fd31) (F64:Fun K "_law_sign_but" "_law_sign_but" zcu f64 fd64) (F65:Fun K "_law_any_sign" "_law_any_sign" zda f65 fd65) (F66:Fun K "_law_signed" "_law_signed" zdu f66 fd66) (F67:Fun K "_law_is_whole" "_law_is_whole" zc9 f67 fd67) (F40:Fun K "_law_same" "_law_same" zd0 f40 fd40) (F32:Fun K "_law_tab" "_law_tab" zdf f32 fd32) (F33:Fun K "_law_deed" "_law_deed" zd1 f33 fd33) (F34:Fun K "_law_machine" "_law_machine" zdj f34 fd34) (F42:Fun K "_law_begins" "_law_begins" zc0 f42 fd42) (F68:Fun K "_law_is_in" "_law_is_in" zd8 f68 fd68) (F69:Fun K "_law_numbers" "_law_numbers" zc2 f69 fd69) (F70:Fun K "_law_is_deed" "_law_is_deed" zc3 f70 fd70) (F71:Fun K "_law_is_machine" "_law_is_machine" zcl f71 fd71) (F72:Fun K "_law_bent" "_law_bent" zen f72 fd72) (F75:Fun K "_law_refusal" "_law_refusal" zdi f75 fd75) (F76:Fun K "_law_told" "_law_told" zek f76 fd76) (F77:Fun K "law" "law" zh5 f77 fd77) (T:Txt K w mg (faOf [(0,f0),(1,f1),(2,f2),(3,f3),(4,f4),(5,f5),(6,f6),(7,f7),(8,f8),(9,f9),(10,f10),(11,f11),(12,f12),(13,f13),(74,f74),(28,f28),(29,f29),(30,f30),(31,f31),(64,f64),(65,f65),(66,f66),(67,f67),(40,f40),(32,f32),(33,f33),(34,f34),(42,f42),(68,f68),(69,f69),(70,f70),(71,f71),(72,f72),(75,f75),(76,f76),(77,f77)])):∀ f d,Pg f=some d->zpj (faOf [(0,f0),(1,f1),(2,f2),(3,f3),(4,f4),(5,f5),(6,f6),(7,f7),(8,f8),(9,f9),(10,f10),(11,f11),(12,f12),(13,f13),(74,f74),(28,f28),(29,f29),(30,f30),(31,f31),(64,f64),(65,f65),(66,f66),(67,f67),(40,f40),(32,f32),(33,f33),(34,f34),(42,f42),(68,f68),(69,f69),(70,f70),(71,f71),(72,f72),(75,f75),(76,f76),(77,f77)]) P w K mg base f d:=fun f d e=>by
  match f,e with
  | 0,e=>cases e;exact mkd zov rfl F0 (F0.binds fun _ _ _ _ _ _=>ziq fun _ _ _=>rfl) rfl rfl (zqk T)
  | 1,e=>cases e;exact mkd zs4 rfl F1 (F1.binds fun _ _ _ _ _ _=>zh3 fun _ _=>rfl) rfl rfl (zvo T)
  | 2,e=>cases e;exact mkd zrt rfl F2 (F2.binds fun _ _ _ _ _ _=>zh3 fun _ _=>rfl) rfl rfl (ztf T)
  | 3,e=>cases e;exact mkd zs9 rfl F3 (F3.binds fun _ _ _ _ _ _=>zg1 fun _=>rfl) rfl rfl (zvt T)
  | 4,e=>cases e;exact mkd zm2 rfl F4 (F4.binds fun _ _ _ _ _ _=>zh3 fun _ _=>rfl) rfl rfl (zoy T)
  | 5,e=>cases e;exact mkd zrs rfl F5 (F5.binds fun _ _ _ _ _ _=>zh3 fun _ _=>rfl) rfl rfl (zte T)
  | 6,e=>cases e;exact mkd zj1 rfl F6 (F6.binds fun _ _ _ _ _ _=>zh3 fun _ _=>rfl) rfl rfl (zk0 T)
  | 7,e=>cases e;exact mkd zs5 rfl F7 (F7.binds fun _ _ _ _ _ _=>ziq fun _ _ _=>rfl) rfl rfl (zvp T)
  | 8,e=>cases e;exact mkd zs7 rfl F8 (F8.binds fun _ _ _ _ _ _=>ziq fun _ _ _=>rfl) rfl rfl (zvr T)
  | 9,e=>cases e;exact mkd zs6 rfl F9 (F9.binds fun _ _ _ _ _ _=>ziq fun _ _ _=>rfl) rfl rfl (zvq T)
  | 10,e=>cases e;exact mkd zva rfl F10 (F10.binds fun _ _ _ _ _ _=>ziq fun _ _ _=>rfl) rfl rfl (zx8 T)
  | 11,e=>cases e;exact mkd zs8 rfl F11 (F11.binds fun _ _ _ _ _ _=>ziq fun _ _ _=>rfl) rfl rfl (zvs T)
  | 12,e=>cases e;exact mkd zou rfl F12 (F12.binds fun _ _ _ _ _ _=>zg1 fun _=>rfl) rfl rfl (zqj T)
  | 13,e=>cases e;exact mkd zlx rfl F13 (F13.binds fun _ _ _ _ _ _=>zg1 fun _=>rfl) rfl rfl (zm9 T)
  | 14,e=>cases e
  | 15,e=>cases e
  | 16,e=>cases e
  | 17,e=>cases e
  | 18,e=>cases e
  | 19,e=>cases e
  | 20,e=>cases e
  | 21,e=>cases e
  | 22,e=>cases e
  | 23,e=>cases e
  | 24,e=>cases e
  | 25,e=>cases e
  | 26,e=>cases e
  | 27,e=>cases e
  | 28,e=>cases e;exact mkd zm3 rfl F28 (F28.binds fun _ _ _ _ _ _=>zh3 fun _ _=>rfl) rfl rfl (zoz T)
  | 29,e=>cases e;exact mkd zp5 rfl F29 (F29.binds fun _ _ _ _ _ _=>zg1 fun _=>rfl) rfl rfl (zry T)
  | 30,e=>cases e;exact mkd zp8 rfl F30 (F30.binds fun _ _ _ _ _ _=>zg1 fun _=>rfl) rfl rfl (zr1 T)
  | 31,e=>cases e;exact mkd zp3 rfl F31 (F31.binds fun _ _ _ _ _ _=>zh3 fun _ _=>rfl) rfl rfl (zrw T)
  | 32,e=>cases e;exact mkd zru rfl F32 (F32.binds fun _ _ _ _ _ _=>zh3 fun _ _=>rfl) rfl rfl (ztg T)
  | 33,e=>cases e;exact mkd zp6 rfl F33 (F33.binds fun _ _ _ _ _ _=>ziq fun _ _ _=>rfl) rfl rfl (zrz T)
  | 34,e=>cases e;exact mkd zl0 rfl F34 (F34.binds fun _ _ _ _ _ _=>usb4 fun _ _ _ _=>rfl) rfl rfl (znc T)
  | 35,e=>cases e
  | 36,e=>cases e
  | 37,e=>cases e
  | 38,e=>cases e
  | 39,e=>cases e
  | 40,e=>cases e;exact mkd zp4 rfl F40 (F40.binds fun _ _ _ _ _ _=>zh3 fun _ _=>rfl) rfl rfl (zrx T)
  | 41,e=>cases e
  | 42,e=>cases e;exact mkd zm5 rfl F42 (F42.binds fun _ _ _ _ _ _=>zg1 fun _=>rfl) rfl rfl (zo1 T)
  | 43,e=>cases e
  | 44,e=>cases e
  | 45,e=>cases e
  | 46,e=>cases e
  | 47,e=>cases e
  | 48,e=>cases e
  | 49,e=>cases e
  | 50,e=>cases e
  | 51,e=>cases e
  | 52,e=>cases e
  | 53,e=>cases e
  | 54,e=>cases e
  | 55,e=>cases e
  | 56,e=>cases e
  | 57,e=>cases e
  | 58,e=>cases e
  | 59,e=>cases e
  | 60,e=>cases e
  | 61,e=>cases e
  | 62,e=>cases e
  | 63,e=>cases e
  | 64,e=>cases e;exact mkd zk9 rfl F64 (F64.binds fun _ _ _ _ _ _=>zh3 fun _ _=>rfl) rfl rfl (zmc T)
  | 65,e=>cases e;exact mkd zlb rfl F65 (F65.binds fun _ _ _ _ _ _=>zg1 fun _=>rfl) rfl rfl (zme T)
  | 66,e=>cases e;exact mkd zm4 rfl F66 (F66.binds fun _ _ _ _ _ _=>zh3 fun _ _=>rfl) rfl rfl (zo0 T)
  | 67,e=>cases e;exact mkd zla rfl F67 (F67.binds fun _ _ _ _ _ _=>zg1 fun _=>rfl) rfl rfl (zmd T)
  | 68,e=>cases e;exact mkd zox rfl F68 (F68.binds fun _ _ _ _ _ _=>ziq fun _ _ _=>rfl) rfl rfl (zqm T)
  | 69,e=>cases e;exact mkd zlz rfl F69 (F69.binds fun _ _ _ _ _ _=>usb4 fun _ _ _ _=>rfl) rfl rfl (znb T)
  | 70,e=>cases e;exact mkd zl1 rfl F70 (F70.binds fun _ _ _ _ _ _=>ziq fun _ _ _=>rfl) rfl rfl (znd T)
  | 71,e=>cases e;exact mkd zj2 rfl F71 (F71.binds fun _ _ _ _ _ _=>zg1 fun _=>rfl) rfl rfl (zk1 T)
  | 72,e=>cases e;exact mkd zp7 rfl F72 (F72.binds fun _ _ _ _ _ _=>ziq fun _ _ _=>rfl) rfl rfl (zr0 T)
  | 73,e=>cases e
  | 74,e=>cases e;exact mkd zow rfl F74 (F74.binds fun _ _ _ _ _ _=>zg1 fun _=>rfl) rfl rfl (zql T)
  | 75,e=>cases e;exact mkd zly rfl F75 (F75.binds fun _ _ _ _ _ _=>zg1 fun _=>rfl) rfl rfl (zna T)
  | 76,e=>cases e;exact mkd zp2 rfl F76 (F76.binds fun _ _ _ _ _ _=>zg1 fun _=>rfl) rfl rfl (zrv T)
  | 77,e=>cases e;exact mkd zu9 rfl F77 (F77.binds fun _ _ _ _ _ _=>zg1 fun _=>rfl) rfl rfl (p_law T)
  | k+78,e=>cases e
end
end K02
open PySem PySem.W PyProof.Rows
set_option maxRecDepth 100000 in
set_option maxHeartbeats 0 in
theorem PySem.Challenge.cw_leastdeeds_k02_beginnings_in_order_holds : PySem.Challenge.rw_leastdeeds_k02_beginnings_in_order.Holds := by
  w_on;o_law
  refine PySem.W.holds_open (r:=K02.krow) (q:=K02.kq) (loose:=K02.zmj) (Xt:=fun s=>PySem.W.xlAt K02.kq [] s&&PySem.W.recOk (PySem.W.RowW.records K02.krow.toRowW) s) (XP:=PySem.W.XL K02.kq []) (Yf:=K02.kH.obs) (Ya:=K02.kH.val) (YP:=K02.kH.says) (N:=9128) K02.kleft K02.kH.of K02.kH.keeps (fun s e=>PySem.W.xl_of s (Bool.and_eq_true_iff.mp e).1) PySem.W.XL.keeps (by rfl) (by rfl) (by rfl) (fun s e=>PySem.W.recFacts_of (Bool.and_eq_true_iff.mp e).2) (by rfl) (by first | assumption | decide +kernel) (by decide +kernel) ⟨rfl,rfl,rfl,rfl,rfl,by decide +kernel⟩ ?hw ?hc
  case hw=>w_witness2
  refine L2.zz7 (l:=PySem.Challenge.rw_leastdeeds_k02_beginnings_in_order) (n:=63) (k:=40) (x:="script") (CX:=fun w=>LD.CXE PySem.Challenge.rw_leastdeeds_k02_beginnings_in_order.prog w) (K:=K02.kh) (sp:=fun w=>LD.spLaw (K02.kh w.params)) rfl (by decide) rfl ⟨rfl,by decide,by decide⟩ (fun w h Y=>PySem.W.kIn_of Y) ?F (fun w H a ns hl hO hS=>⟨a,ns,rfl,hS,hO,hl,fun _=>rfl⟩) (fun _ _ _ _ _ z=>let ⟨_,_,_,_,_,_,_,_,_,_,q⟩:=z;q)
  case F=>
    intro w mg fa h KX G hmg
    obtain ⟨f0,fd0,m0,F0⟩:=K02.mkf "is_between" K02.zd7 223 222 "leastdeeds.wholes" 458 KX G (by kernel_rfl) (by kernel_rfl) (by kernel_rfl) (by kernel_rfl)
    obtain ⟨f1,fd1,m1,F1⟩:=K02.mkf "is_word" K02.zfa 230 229 "leastdeeds.machines" 469 KX G (by kernel_rfl) (by kernel_rfl) (by kernel_rfl) (by kernel_rfl)
    obtain ⟨f2,fd2,m2,F2⟩:=K02.mkf "is_place" K02.ze0 237 236 "leastdeeds.machines" 469 KX G (by kernel_rfl) (by kernel_rfl) (by kernel_rfl) (by kernel_rfl)
    obtain ⟨f3,fd3,m3,F3⟩:=K02.mkf "is_cost" K02.zff 244 243 "leastdeeds.machines" 469 KX G (by kernel_rfl) (by kernel_rfl) (by kernel_rfl) (by kernel_rfl)
    obtain ⟨f4,fd4,m4,F4⟩:=K02.mkf "is_tuple_of" K02.zds 251 250 "leastdeeds.machines" 469 KX G (by kernel_rfl) (by kernel_rfl) (by kernel_rfl) (by kernel_rfl)
    obtain ⟨f5,fd5,m5,F5⟩:=K02.mkf "is_table" K02.zej 256 255 "leastdeeds.machines" 469 KX G (by kernel_rfl) (by kernel_rfl) (by kernel_rfl) (by kernel_rfl)
    obtain ⟨f6,fd6,m6,F6⟩:=K02.mkf "is_double_table" K02.zck 261 260 "leastdeeds.machines" 469 KX G (by kernel_rfl) (by kernel_rfl) (by kernel_rfl) (by kernel_rfl)
    obtain ⟨f7,fd7,m7,F7⟩:=K02.mkf "is_turn" K02.zfb 268 267 "leastdeeds.machines" 469 KX G (by kernel_rfl) (by kernel_rfl) (by kernel_rfl) (by kernel_rfl)
    obtain ⟨f8,fd8,m8,F8⟩:=K02.mkf "is_join" K02.zfd 275 274 "leastdeeds.machines" 469 KX G (by kernel_rfl) (by kernel_rfl) (by kernel_rfl) (by kernel_rfl)
    obtain ⟨f9,fd9,m9,F9⟩:=K02.mkf "is_move" K02.zfc 282 281 "leastdeeds.machines" 469 KX G (by kernel_rfl) (by kernel_rfl) (by kernel_rfl) (by kernel_rfl)
    obtain ⟨f10,fd10,m10,F10⟩:=K02.mkf "is_put" K02.zfv 289 288 "leastdeeds.machines" 469 KX G (by kernel_rfl) (by kernel_rfl) (by kernel_rfl) (by kernel_rfl)
    obtain ⟨f11,fd11,m11,F11⟩:=K02.mkf "is_deed" K02.zfe 297 296 "leastdeeds.machines" 469 KX G (by kernel_rfl) (by kernel_rfl) (by kernel_rfl) (by kernel_rfl)
    obtain ⟨f12,fd12,m12,F12⟩:=K02.mkf "is_machine" K02.zdo 302 301 "leastdeeds.machines" 469 KX G (by kernel_rfl) (by kernel_rfl) (by kernel_rfl) (by kernel_rfl)
    obtain ⟨f13,fd13,m13,F13⟩:=K02.mkf "need_machine" K02.zdh 309 308 "leastdeeds.machines" 469 KX G (by kernel_rfl) (by kernel_rfl) (by kernel_rfl) (by kernel_rfl)
    obtain ⟨f74,fd74,m74,F74⟩:=K02.mkf "beginnings" K02.zdp 314 313 "leastdeeds.machines" 469 KX G (by kernel_rfl) (by kernel_rfl) (by kernel_rfl) (by kernel_rfl)
    obtain ⟨f28,fd28,m28,F28⟩:=K02.mkf "_law_spread" K02.zdt 321 320 "law_leastdeeds_k02_beginnings_in_order" 612 KX G (by kernel_rfl) (by kernel_rfl) (by kernel_rfl) (by kernel_rfl)
    obtain ⟨f29,fd29,m29,F29⟩:=K02.mkf "_law_open" K02.zem 328 327 "law_leastdeeds_k02_beginnings_in_order" 612 KX G (by kernel_rfl) (by kernel_rfl) (by kernel_rfl) (by kernel_rfl)
    obtain ⟨f30,fd30,m30,F30⟩:=K02.mkf "_law_anew" K02.zeo 335 334 "law_leastdeeds_k02_beginnings_in_order" 612 KX G (by kernel_rfl) (by kernel_rfl) (by kernel_rfl) (by kernel_rfl)
    obtain ⟨f31,fd31,m31,F31⟩:=K02.mkf "_law_take" K02.zel 342 341 "law_leastdeeds_k02_beginnings_in_order" 612 KX G (by kernel_rfl) (by kernel_rfl) (by kernel_rfl) (by kernel_rfl)
    obtain ⟨f64,fd64,m64,F64⟩:=K02.mkf "_law_sign_but" K02.zcu 347 346 "law_leastdeeds_k02_beginnings_in_order" 612 KX G (by kernel_rfl) (by kernel_rfl) (by kernel_rfl) (by kernel_rfl)
    obtain ⟨f65,fd65,m65,F65⟩:=K02.mkf "_law_any_sign" K02.zda 354 353 "law_leastdeeds_k02_beginnings_in_order" 612 KX G (by kernel_rfl) (by kernel_rfl) (by kernel_rfl) (by kernel_rfl)
    obtain ⟨f66,fd66,m66,F66⟩:=K02.mkf "_law_signed" K02.zdu 361 360 "law_leastdeeds_k02_beginnings_in_order" 612 KX G (by kernel_rfl) (by kernel_rfl) (by kernel_rfl) (by kernel_rfl)
    obtain ⟨f67,fd67,m67,F67⟩:=K02.mkf "_law_is_whole" K02.zc9 368 367 "law_leastdeeds_k02_beginnings_in_order" 612 KX G (by kernel_rfl) (by kernel_rfl) (by kernel_rfl) (by kernel_rfl)
    obtain ⟨f40,fd40,m40,F40⟩:=K02.mkf "_law_same" K02.zd0 373 372 "law_leastdeeds_k02_beginnings_in_order" 612 KX G (by kernel_rfl) (by kernel_rfl) (by kernel_rfl) (by kernel_rfl)
    obtain ⟨f32,fd32,m32,F32⟩:=K02.mkf "_law_tab" K02.zdf 378 377 "law_leastdeeds_k02_beginnings_in_order" 612 KX G (by kernel_rfl) (by kernel_rfl) (by kernel_rfl) (by kernel_rfl)
    obtain ⟨f33,fd33,m33,F33⟩:=K02.mkf "_law_deed" K02.zd1 383 382 "law_leastdeeds_k02_beginnings_in_order" 612 KX G (by kernel_rfl) (by kernel_rfl) (by kernel_rfl) (by kernel_rfl)
    obtain ⟨f34,fd34,m34,F34⟩:=K02.mkf "_law_machine" K02.zdj 390 389 "law_leastdeeds_k02_beginnings_in_order" 612 KX G (by kernel_rfl) (by kernel_rfl) (by kernel_rfl) (by kernel_rfl)
    obtain ⟨f42,fd42,m42,F42⟩:=K02.mkf "_law_begins" K02.zc0 395 394 "law_leastdeeds_k02_beginnings_in_order" 612 KX G (by kernel_rfl) (by kernel_rfl) (by kernel_rfl) (by kernel_rfl)
    obtain ⟨f68,fd68,m68,F68⟩:=K02.mkf "_law_is_in" K02.zd8 402 401 "law_leastdeeds_k02_beginnings_in_order" 612 KX G (by kernel_rfl) (by kernel_rfl) (by kernel_rfl) (by kernel_rfl)
    obtain ⟨f69,fd69,m69,F69⟩:=K02.mkf "_law_numbers" K02.zc2 407 406 "law_leastdeeds_k02_beginnings_in_order" 612 KX G (by kernel_rfl) (by kernel_rfl) (by kernel_rfl) (by kernel_rfl)
    obtain ⟨f70,fd70,m70,F70⟩:=K02.mkf "_law_is_deed" K02.zc3 412 411 "law_leastdeeds_k02_beginnings_in_order" 612 KX G (by kernel_rfl) (by kernel_rfl) (by kernel_rfl) (by kernel_rfl)
    obtain ⟨f71,fd71,m71,F71⟩:=K02.mkf "_law_is_machine" K02.zcl 417 416 "law_leastdeeds_k02_beginnings_in_order" 612 KX G (by kernel_rfl) (by kernel_rfl) (by kernel_rfl) (by kernel_rfl)
    obtain ⟨f72,fd72,m72,F72⟩:=K02.mkf "_law_bent" K02.zen 424 423 "law_leastdeeds_k02_beginnings_in_order" 612 KX G (by kernel_rfl) (by kernel_rfl) (by kernel_rfl) (by kernel_rfl)
    obtain ⟨f75,fd75,m75,F75⟩:=K02.mkf "_law_refusal" K02.zdi 431 430 "law_leastdeeds_k02_beginnings_in_order" 612 KX G (by kernel_rfl) (by kernel_rfl) (by kernel_rfl) (by kernel_rfl)
    obtain ⟨f76,fd76,m76,F76⟩:=K02.mkf "_law_told" K02.zek 438 437 "law_leastdeeds_k02_beginnings_in_order" 612 KX G (by kernel_rfl) (by kernel_rfl) (by kernel_rfl) (by kernel_rfl)
    obtain ⟨f77,fd77,m77,F77⟩:=K02.mkf "law" K02.zh5 445 444 "law_leastdeeds_k02_beginnings_in_order" 612 KX G (by kernel_rfl) (by kernel_rfl) (by kernel_rfl) (by kernel_rfl)
    have z_ValueError:mg "ValueError"=none:=LD.zfn KX G (by kernel_rfl)
    have z_all:mg "all"=none:=LD.zfn KX G (by kernel_rfl)
    have z_bool:mg "bool"=none:=LD.zfn KX G (by kernel_rfl)
    have z_enumerate:mg "enumerate"=none:=LD.zfn KX G (by kernel_rfl)
    have z_int:mg "int"=none:=LD.zfn KX G (by kernel_rfl)
    have z_isinstance:mg "isinstance"=none:=LD.zfn KX G (by kernel_rfl)
    have z_len:mg "len"=none:=LD.zfn KX G (by kernel_rfl)
    have z_list:mg "list"=none:=LD.zfn KX G (by kernel_rfl)
    have z_range:mg "range"=none:=LD.zfn KX G (by kernel_rfl)
    have z_str:mg "str"=none:=LD.zfn KX G (by kernel_rfl)
    have z_tuple:mg "tuple"=none:=LD.zfn KX G (by kernel_rfl)
    have z_zip:mg "zip"=none:=LD.zfn KX G (by kernel_rfl)
    have c_LEAST_WORDS:∃ t,mg "LEAST_WORDS"=some (.int 2 t):=LD.zj8 (t:=471) KX G (by kernel_rfl)
    have c_MOST_COST:∃ t,mg "MOST_COST"=some (.int 3 t):=LD.zj8 (t:=479) KX G (by kernel_rfl)
    have c_MOST_DEEDS:∃ t,mg "MOST_DEEDS"=some (.int 6 t):=LD.zj8 (t:=477) KX G (by kernel_rfl)
    have c_MOST_PLACES:∃ t,mg "MOST_PLACES"=some (.int 2 t):=LD.zj8 (t:=475) KX G (by kernel_rfl)
    have c_MOST_WORDS:∃ t,mg "MOST_WORDS"=some (.int 4 t):=LD.zj8 (t:=473) KX G (by kernel_rfl)
    have b7:=LD.zdc (x:="is_turn") (f:=268) KX G (by kernel_rfl)
    have b8:=LD.zdc (x:="is_join") (f:=275) KX G (by kernel_rfl)
    have b9:=LD.zdc (x:="is_move") (f:=282) KX G (by kernel_rfl)
    have b10:=LD.zdc (x:="is_put") (f:=289) KX G (by kernel_rfl)
    have d_SORTS:=LD.z1n (x:="SORTS") (P:=w.params) (fa:=K02.faOf [(0,f0),(1,f1),(2,f2),(3,f3),(4,f4),(5,f5),(6,f6),(7,f7),(8,f8),(9,f9),(10,f10),(11,f11),(12,f12),(13,f13),(74,f74),(28,f28),(29,f29),(30,f30),(31,f31),(64,f64),(65,f65),(66,f66),(67,f67),(40,f40),(32,f32),(33,f33),(34,f34),(42,f42),(68,f68),(69,f69),(70,f70),(71,f71),(72,f72),(75,f75),(76,f76),(77,f77)]) (fs:=LD.zdw) (ad:=290) (es:=#[{hash:=PySem.PyData.keyHash w.params (PySem.Str.ofString "turn"),key:=PySem.Value.str (PySem.Str.ofString "turn") 573,val:=PySem.Value.ref 268},{hash:=PySem.PyData.keyHash w.params (PySem.Str.ofString "join"),key:=PySem.Value.str (PySem.Str.ofString "join") 574,val:=PySem.Value.ref 275},{hash:=PySem.PyData.keyHash w.params (PySem.Str.ofString "move"),key:=PySem.Value.str (PySem.Str.ofString "move") 575,val:=PySem.Value.ref 282},{hash:=PySem.PyData.keyHash w.params (PySem.Str.ofString "put"),key:=PySem.Value.str (PySem.Str.ofString "put") 576,val:=PySem.Value.ref 289}]) (n:=4) KX G (by kernel_rfl) (by kernel_rfl) (by exact LD.zkq (LD.zkq (LD.zkq (LD.zkq (LD.kd_nil))))) (by decide +kernel) (by decide) (by exact LD.zjq rfl m7 b7 (LD.zjq rfl m8 b8 (LD.zjq rfl m9 b9 (LD.zjq rfl m10 b10 (.nil)))))
    have T:=K02.Txt.mk (w:=w) (fa:=K02.faOf [(0,f0),(1,f1),(2,f2),(3,f3),(4,f4),(5,f5),(6,f6),(7,f7),(8,f8),(9,f9),(10,f10),(11,f11),(12,f12),(13,f13),(74,f74),(28,f28),(29,f29),(30,f30),(31,f31),(64,f64),(65,f65),(66,f66),(67,f67),(40,f40),(32,f32),(33,f33),(34,f34),(42,f42),(68,f68),(69,f69),(70,f70),(71,f71),(72,f72),(75,f75),(76,f76),(77,f77)]) (z_ValueError) (z_all) (z_bool) (z_enumerate) (z_int) (z_isinstance) (z_len) (z_list) (z_range) (z_str) (z_tuple) (z_zip) (c_LEAST_WORDS) (c_MOST_COST) (c_MOST_DEEDS) (c_MOST_PLACES) (c_MOST_WORDS) (d_SORTS) (LD.xcs_of (by kernel_rfl)) (⟨24,LD.zdc (x:="DeedError") (f:=24) KX G (by kernel_rfl),rfl⟩) (⟨44,LD.zdc (x:="NoRow") (f:=44) KX G (by kernel_rfl),rfl⟩) (⟨63,LD.zdc (x:="NoRule") (f:=63) KX G (by kernel_rfl),rfl⟩) (⟨82,LD.zdc (x:="NoStep") (f:=82) KX G (by kernel_rfl),rfl⟩) (⟨94,LD.zdc (x:="NoMachine") (f:=94) KX G (by kernel_rfl),rfl⟩) (⟨106,LD.zdc (x:="TooLong") (f:=106) KX G (by kernel_rfl),rfl⟩) (⟨118,LD.zdc (x:="NoWord") (f:=118) KX G (by kernel_rfl),rfl⟩) (⟨130,LD.zdc (x:="NoWork") (f:=130) KX G (by kernel_rfl),rfl⟩) (⟨142,LD.zdc (x:="NoBound") (f:=142) KX G (by kernel_rfl),rfl⟩) (⟨154,LD.zdc (x:="TooMany") (f:=154) KX G (by kernel_rfl),rfl⟩) (⟨166,LD.zdc (x:="NoPlace") (f:=166) KX G (by kernel_rfl),rfl⟩) (⟨178,LD.zdc (x:="NoDeed") (f:=178) KX G (by kernel_rfl),rfl⟩) (⟨190,LD.zdc (x:="Nothing") (f:=190) KX G (by kernel_rfl),rfl⟩) (⟨202,LD.zdc (x:="NoText") (f:=202) KX G (by kernel_rfl),rfl⟩) (⟨214,LD.zdc (x:="NoLine") (f:=214) KX G (by kernel_rfl),rfl⟩) (⟨94,LD.zdc (x:="NoMachine") (f:=94) KX G (by kernel_rfl),rfl,by kernel_rfl⟩) (fun ad h=>by cases h;exact m0) (fun ad h=>by cases h;exact m1) (fun ad h=>by cases h;exact m2) (fun ad h=>by cases h;exact m3) (fun ad h=>by cases h;exact m4) (fun ad h=>by cases h;exact m5) (fun ad h=>by cases h;exact m6) (fun ad h=>by cases h;exact m11) (fun ad h=>by cases h;exact m12) (fun ad h=>by cases h;exact m13) (fun ad h=>by cases h;exact m28) (fun ad h=>by cases h;exact m29) (fun ad h=>by cases h;exact m30) (fun ad h=>by cases h;exact m31) (fun ad h=>by cases h;exact m32) (fun ad h=>by cases h;exact m33) (fun ad h=>by cases h;exact m34) (fun ad h=>by cases h;exact m40) (fun ad h=>by cases h;exact m42) (fun ad h=>by cases h;exact m64) (fun ad h=>by cases h;exact m65) (fun ad h=>by cases h;exact m66) (fun ad h=>by cases h;exact m67) (fun ad h=>by cases h;exact m68) (fun ad h=>by cases h;exact m69) (fun ad h=>by cases h;exact m70) (fun ad h=>by cases h;exact m71) (fun ad h=>by cases h;exact m72) (fun ad h=>by cases h;exact m74) (fun ad h=>by cases h;exact m75) (fun ad h=>by cases h;exact m76)
    have e:=hmg.symm.trans m77
    cases e
    exact ⟨fd77,fun s v=>by
      obtain ⟨oc,od,kV,doc,pm,an,cdv,ct,osl,rfl,lk,hcd⟩:=F77.ex
      exact .of_eq rfl,fun base _ _=>LD.law_fn (n:=39) (f:=77) (K02.z2a F0 F1 F2 F3 F4 F5 F6 F7 F8 F9 F10 F11 F12 F13 F74 F28 F29 F30 F31 F64 F65 F66 F67 F40 F32 F33 F34 F42 F68 F69 F70 F71 F72 F75 F76 F77 T) K02.zym rfl F77 K02.zu9 rfl fun c n cdv A outer s H E C hr=>K02.p_law T c n cdv A outer s H E C hr⟩
