import PyProof.Rows.All
import Wide.All
import OpenK.AllK
import Wide.FinOn
import Lean
import PyProof.EqAt
import PyProof.EqKinds
import PyProof.TupleCall
import PyProof.StrOps
import PyProof.MeetsStr
import PyProof.StrLawsJoin
import PySem.Challenge.RW_leastdeeds_k06_what_is_refused_of_runs
set_option Elab.async false
set_option linter.all false
set_option maxRecDepth 100000
set_option maxHeartbeats 0
noncomputable section
abbrev tqa:=@PySem.wpAny_bind
abbrev tqb:=@PySem.wpAny_pure
abbrev tqc:=@PySem.Heap.get?_push_of_some
abbrev tqd:=@PySem.Heap.lt_size
abbrev tqe:=@PySem.Heap.get?_push_size
abbrev tqf:=@PySem.wpAny_field
abbrev tqg:=@Nat.le_refl
abbrev tqh:=@Nat.le_trans
abbrev tqi:=@Nat.lt_of_lt_of_le
abbrev tqj:=@Bool.false_ne_true
abbrev tqk:=@Nat.ne_of_lt
abbrev tql:=@PySem.Heap.get?_update_other
abbrev tqm:=@PySem.Heap.get?_update_self
abbrev tqn:=@Nat.lt_irrefl
abbrev tqo:=@PySem.wpAny_holding
abbrev tqp:=@PySem.wpAny_truthy_bool
abbrev tqq:=@Nat.le_of_ble_eq_true
namespace HD
open PySem PySem.W
def lX (tb:String->Option Builtin)(p:Program)(w:World)(n0:Nat)(ann:Option Value):Nat->SharedT->Thread->Option SharedT
 |0,_,_=>none
 | n + 1, s, t => match through t with
   |true=>some s
   | false => match stepOk n0 ann t with
     |false=>none
     | true => match stepT (denote tb) p w s t with
       |some (s',t')=>lX tb p w n0 ann n s' t'
       |none=>none
theorem sA {tb:String->Option Builtin}{p:Program}{w:World}{n0:Nat}{ann:Option Value}:∀{n:Nat}{s s':SharedT}{t:Thread},lX tb p w n0 ann n s t=some s'->topRun tb p w n0 ann n s.abs t=some s'.abs
 |0,_,_,_,h=>by cases h
 | n + 1, s, s', t, h => by
   unfold lX at h
   unfold topRun
   cases he:through t with
   |true=>rw [he] at h;cases h;rfl
   | false =>
     rw [he] at h
     cases hk:stepOk n0 ann t with
     |false=>rw [hk] at h;cases h
     | true =>
       rw [hk] at h
       cases hs:stepT (denote tb) p w s t with
       |none=>rw [hs] at h;cases h
       |some r=>obtain ⟨s2,t2⟩:=r;rw [hs] at h;rw [stepT_spec hs];exact sA h
def treeOf:List Obj->Nat->BT->BT
 |[],_,t=>t
 |o::r,n,t=>treeOf r (n+1) (t.ins n o)
def yp (P:Params)(os:OsState):SharedT:=⟨treeOf (boot_heap P).objs.toList 0 .nil,(boot_heap P).objs.toList.length,(boot_heap P).life,#[],boot_drawn,boot_toks,os⟩
theorem boot_abs (P:Params)(os:OsState):(yp P os).abs=⟨boot_heap P,#[],boot_drawn,boot_toks,os⟩:=by kernel_rfl
def xQ (p q:Program)(loose:List Str)(Xt:Shared->Bool)(g0:Bool)(h0:Heap){α:Type}(Yf:Shared->α)(s:Shared):=
 ((staticsOk (importedModules p.main.body) h0 s.heap&&namesBound p s.heap&&gensDone s&&laidKept h0 s.heap),openSeen q loose (importedModules p.main.body) Xt g0 s,Yf s)
end HD
namespace HD
open PySem PySem.W
def wF (tb:String->Option Builtin)(p:Program)(w:World)(n0:Nat)(ann:Option Value):Nat->SharedT->Thread->Option (SharedT×Thread)
 |0,s,t=>some (s,t)
 | n + 1, s, t => match through t with
   |true=>none
   | false => match stepOk n0 ann t with
     |false=>none
     | true => match stepT (denote tb) p w s t with
       |some (s',t')=>wF tb p w n0 ann n s' t'
       |none=>none
def nA (tb:String->Option Builtin)(p:Program)(w:World)(n0:Nat)(ann:Option Value):Nat->SharedT->Thread->Option (Flow×SharedT×Code×Pos)
 |0,_,_=>none
 | n + 1, s, t => match endAt 1 t with
   |some f=>some (f,s,t.code,t.pos)
   | none => match stepOk n0 ann t with
     |false=>none
     | true => match stepT (denote tb) p w s t with
       |some (s',t')=>nA tb p w n0 ann n s' t'
       |none=>none
section
variable {tb:String->Option Builtin}{p:Program}{w:World}{n0:Nat}{ann:Option Value}
theorem zU:∀{n:Nat}{s s':SharedT}{t t':Thread},wF tb p w n0 ann n s t=some (s',t')->topGo tb p w n0 ann n s.abs t=some (s'.abs,t')
 |0,s,s',t,t',h=>by cases h;rfl
 | n + 1, s, s', t, t', h => by
   unfold wF at h
   unfold topGo
   cases he:through t with
   |true=>rw [he] at h;cases h
   | false =>
     rw [he] at h
     cases hk:stepOk n0 ann t with
     |false=>rw [hk] at h;cases h
     | true =>
       rw [hk] at h
       cases hs:stepT (denote tb) p w s t with
       |none=>rw [hs] at h;cases h
       |some q=>obtain ⟨s2,t2⟩:=q;rw [hs] at h;rw [stepT_spec hs];exact zU h
theorem qZ:∀{n:Nat}{s s':SharedT}{t:Thread}{f:Flow}{c:Code}{q:Pos},nA tb p w n0 ann n s t=some (f,s',c,q)->segRun tb p w n0 ann 1 n s.abs t=some (f,s'.abs,c,q)
 |0,_,_,_,_,_,_,h=>by cases h
 | n + 1, s, s', t, f, c, q, h => by
   unfold nA at h
   unfold segRun
   cases he:endAt 1 t with
   |some g=>rw [he] at h;cases h;rfl
   | none =>
     rw [he] at h
     cases hk:stepOk n0 ann t with
     |false=>rw [hk] at h;cases h
     | true =>
       rw [hk] at h
       cases hs:stepT (denote tb) p w s t with
       |none=>rw [hs] at h;cases h
       |some x=>obtain ⟨s2,t2⟩:=x;rw [hs] at h;rw [stepT_spec hs];exact qZ h
theorem Ce {n1 n2 n3 N:Nat}{s s' s2:SharedT}{env:Env}{c:Code}{pos p' p2 q:Pos}{t:Thread}{b:List Stmt}{J J2:Nat}{α:Type}{f:Shared->α}{a:α}
 (h1:(wF tb p w n0 ann n1 s t).map (·.2)=some ⟨denote tb (.body b env),c,pos,[topFrame q]⟩) (h0:endAt 1 (blockOf b env c pos [topFrame q])=some .next)
 (h2:((wF tb p w n0 ann n1 s t).bind fun x=>nA tb p w n0 ann n2 x.1 (piecesOf (b.take J) env c pos [topFrame q]))=some (.next,s',c,p'))
 (h3:nA tb p w n0 ann n3 s' (piecesOf ((b.drop J).take J2) env c p' [topFrame q])=some (.next,s2,c,p2))
 (h4:(lX tb p w n0 ann N s2 (restOf ((b.drop J).drop J2) env c p2 [topFrame q])).map (fun s=>f s.abs)=some a):(topRun tb p w n0 ann (n1+(1+(n2+(n3+N)))) s.abs t).map f=some a:=by
 obtain ⟨⟨s1,t1⟩,e1,e2⟩:=Option.map_eq_some_iff.mp h1
 have e2:t1=⟨denote tb (.body b env),c,pos,[topFrame q]⟩:=e2
 subst e2
 rw [e1] at h2
 have h2:nA tb p w n0 ann n2 s1 (piecesOf (b.take J) env c pos [topFrame q])=some (.next,s',c,p'):=h2
 obtain ⟨r,e3,e4⟩:=Option.map_eq_some_iff.mp h4
 have k4:=piece_app (qZ h3) (sA e3)
 rw [List.take_append_drop] at k4
 have k3:=piece_app (qZ h2) k4
 rw [List.take_append_drop] at k3
 have hb:segRun tb p w n0 ann 1 1 s1.abs (blockOf b env c pos [topFrame q])=some (.next,s1.abs,c,pos):=by
  show (match endAt 1 (blockOf b env c pos [topFrame q]) with|some f=>some (f,s1.abs,c,pos)|none=>_)=_
  rw [h0]
 have k2:=piece_block hb k3
 rw [go_top (zU e1) k2]
 exact congrArg some e4
end
theorem vQ {p q:Program}{loose:List Str}{Xt:Shared->Bool}{α:Type}{Yf:Shared->α}{Ya:World->α}{N:Nat}{g0:Bool}{m0:Nat}{ann:Option Value}
 (open_:∀w:World,(fencedOpening treeTable p w N).map (fun s=>(s.heap,s.gens,s.drawn,s.toks))=some (boot_heap w.params,Array.mk [],boot_drawn,boot_toks))
 (size:∀w:World,((boot_heap w.params).isNs mainGlobals&&(Array.mk ([]:List GenState)).size==0,(boot_heap w.params).objs.size,(boot_heap w.params).nsMap mainGlobals "__annotations__")=(true,m0,ann))
 (run:∀(w:World) (os:OsState),(topRun treeTable p w m0 ann N (yp w.params os).abs (topStub p)).map (xQ p q loose Xt g0 (boot_heap w.params) Yf)=some (true,openGood q loose,Ya w)):LeftO p q loose Xt Yf Ya N g0:=fun w=>by
 obtain ⟨⟨h,gs,d,k,os⟩,e,e'⟩:=Option.map_eq_some_iff.mp (open_ w)
 obtain ⟨rfl,rfl,rfl,rfl⟩:h=boot_heap w.params/\gs=Array.mk []/\d=boot_drawn/\k=boot_toks:=by simpa using e'
 obtain ⟨z1,z2,z3⟩:_/\_/\_:=by simpa only [Prod.mk.injEq] using size w
 obtain ⟨s1,r,l⟩:=Option.map_eq_some_iff.mp (run w os)
 obtain ⟨l1,l2,l3⟩:_/\_/\_:=by simpa only [xQ,Prod.mk.injEq] using l
 rw [boot_abs] at r
 have t:topFrom treeTable p w N ⟨boot_heap w.params,Array.mk [],boot_drawn,boot_toks,os⟩=some s1:=by
  unfold topFrom
  dsimp only
  rw [z1,z2,z3,r]
  show (match staticsOk (importedModules p.main.body) (boot_heap w.params) s1.heap&&namesBound p s1.heap&&gensDone s1&&laidKept (boot_heap w.params) s1.heap with|true=>_|false=>_)=_
  rw [l1]
 unfold openEnds
 rw [e]
 show (topFrom treeTable p w N _).map _=_
 rw [t]
 exact congrArg some (Prod.ext l2 l3)
end HD
namespace K06
open PySem
abbrev eN (P:Params)(x:Str)(n:Nat)(v:Value):DictEntry:=⟨PyData.keyHash P x,.str x n,v⟩
abbrev gE:String:="law_leastdeeds_k06_what_is_refused_of_runs"
def rP (s:Stmt):Stmt:=match s with
 |.ClassDef _ _ _ (b::_) _ _ _ _ _ _ _=>b
 |_=>s
def j7 (i:Nat):Stmt:=PySem.Challenge.pw_leastdeeds_k06_what_is_refused_of_runs.main.body.getD i (.Pass ⟨0,0,0,0⟩)
def tZ (s:Stmt):Arguments:=match s with
 |.FunctionDef _ a _ _ _ _ _ _ _ _=>a
 |_=>⟨[],[],none,[],[],none,[]⟩
def tY (s:Stmt):List Stmt:=match s with
 |.FunctionDef _ _ b _ _ _ _ _ _ _=>b
 |_=>[]
def qH (s:Stmt):Scope:=match s with
 |.FunctionDef _ _ _ _ _ _ sc _ _ _=>sc
 |_=>{kind:=.function,names:=[],isGenerator:=false,isCoroutine:=false}
def o1:Obj:={cls:=.type "tuple" ,data:=.seq #[]}
def o2 (a:String)(b:Nat)(c:Int)(d:Nat)(e:Int):Obj:={cls:=.type "code" ,data:=.fields #[.str (Str.ofString a) b ,.str (Str.ofString a) (b+1) ,.str ("/claim/cut.py") (b+2) ,.int c 0 ,.int 0 0 ,.int 0 0 ,.int 0 0 ,.int 0 0 ,.ref d ,.bool false ,.int 181 0 ,.ref (d+1) ,.none ,.none ,.none ,.none ,.int e 0 ,.int c 0 ,.str ("/claim/cut.py") (b+4)]}
def o3 (a:Nat)(b:Nat)(c:String)(d:Nat):Obj:={cls:=.type "frame" ,slots:=#[some (.ref a) ,some (.ref 3) ,some (.ref b) ,none ,some (.str (Str.ofString c) d) ,none ,some (.ref 0)]}
def o4:Obj:={cls:=.type "builtin_function_or_method" ,data:=.fields #[.builtin "type.__prepare__" ,.type "type"]}
def o5 (P:Params)(a:Nat)(b:String)(c:Int)(d:Nat):Obj:={cls:=.type "dict" ,data:=.dict #[{hash:=PyData.keyHash P ("__module__") ,key:=.str ("__module__") a ,val:=.str ("leastdeeds.errors") 187} ,{hash:=PyData.keyHash P ("__qualname__") ,key:=.str ("__qualname__") (a+2) ,val:=.str (Str.ofString b) (a+1)} ,{hash:=PyData.keyHash P ("__firstlineno__") ,key:=.str ("__firstlineno__") (a+4) ,val:=.int c (a+3)} ,{hash:=PyData.keyHash P ("__static_attributes__") ,key:=.str ("__static_attributes__") (a+5) ,val:=.ref d}] 4}
def o6:Obj:={cls:=.none ,data:=.fields #[]}
def o7 (P:Params)(a:Nat)(b:Int)(c:String)(d:Nat)(e:Nat)(f:String)(g:Nat)(h:Nat):Obj:={cls:=.type "dict" ,data:=.dict #[{hash:=PyData.keyHash P ("__module__") ,key:=.str ("__module__") a ,val:=.str ("leastdeeds.errors") 187} ,{hash:=PyData.keyHash P ("__firstlineno__") ,key:=.str ("__firstlineno__") (a+4) ,val:=.int b (a+3)} ,{hash:=PyData.keyHash P (Str.ofString c) ,key:=.str (Str.ofString c) d ,val:=.ref e} ,{hash:=PyData.keyHash P (Str.ofString f) ,key:=.str (Str.ofString f) (d+2) ,val:=.ref g} ,{hash:=PyData.keyHash P ("__doc__") ,key:=.str ("__doc__") (d+3) ,val:=.none}] h}
def o8 (a:Nat):Obj:={cls:=.type "super" ,data:=.fields #[.ref a ,.ref a ,.ref a]}
def o9 (a:Nat):Obj:={cls:=.type "builtin_function_or_method" ,data:=.fields #[.builtin "object.__init_subclass__" ,.ref a]}
def lB:Obj:={cls:=.type "tuple" ,data:=.seq #[.ref 24]}
def GN (P:Params)(a:Nat)(b:String)(c:Int)(d:Nat):Obj:={cls:=.type "dict" ,data:=.dict #[{hash:=PyData.keyHash P ("__module__") ,key:=.str ("__module__") a ,val:=.str ("leastdeeds.errors") 187} ,{hash:=PyData.keyHash P ("__qualname__") ,key:=.str ("__qualname__") (a+2) ,val:=.str (Str.ofString b) (a+1)} ,{hash:=PyData.keyHash P ("__firstlineno__") ,key:=.str ("__firstlineno__") (a+4) ,val:=.int c (a+3)} ,{hash:=PyData.keyHash P ("__init__") ,key:=.str ("__init__") (a+12) ,val:=.ref d} ,{hash:=PyData.keyHash P ("__static_attributes__") ,key:=.str ("__static_attributes__") (a+14) ,val:=.ref (d+1)}] 5}
def GL (a:Int)(b:Nat):Obj:={cls:=.none ,data:=.fields #[.int a 0 ,.int 4 0 ,.ref b]}
def wo (a:String)(b:Nat)(c:String):Obj:={cls:=.type "tuple" ,data:=.seq #[.str (Str.ofString a) b ,.str (Str.ofString c) (b+1)]}
def GK (a:String)(b:Nat):Obj:={cls:=.none ,data:=.func {name:="__init__" ,qualname:=Str.ofString a ,params:=tZ (rP (j7 b)) ,body:=PySem.FuncBody.stmts (tY (rP (j7 b))) ,scope:=qH (rP (j7 b)) ,globals:=0 ,closure:=[] ,defaults:=.none ,kwdefaults:=.none ,pyModule:=.none ,code:=.none}}
def cF (a:String)(b:Nat)(c:String)(d:Int)(e:Int)(f:Nat)(g:Int)(h:Nat):Obj:={cls:=.type "code" ,data:=.fields #[.str (Str.ofString a) b ,.str (Str.ofString c) (b+1) ,.str ("/claim/cut.py") (b+2) ,.int d 0 ,.int e 0 ,.int 0 0 ,.int 0 0 ,.int 3 0 ,.ref f ,.bool true ,.int 181 0 ,.ref (f+1) ,.none ,.ref (f+2) ,.ref (f+3) ,.ref (f+4) ,.int g 0 ,.int d 0 ,.str ("/claim/cut.py") h]}
def CS (a:String)(b:Nat)(c:Nat):Obj:={cls:=.type "function" ,data:=.func {name:="__init__" ,qualname:=Str.ofString a ,params:=tZ (rP (j7 b)) ,body:=PySem.FuncBody.stmts (tY (rP (j7 b))) ,scope:=qH (rP (j7 b)) ,globals:=3 ,closure:=[] ,defaults:=.none ,kwdefaults:=.none ,pyModule:=.str ("leastdeeds.errors") 187 ,code:=.ref c}}
def zC (a:String)(b:Nat):Obj:={cls:=.type "tuple" ,data:=.seq #[.str (Str.ofString a) b]}
def fq (a:String)(b:Nat)(c:Nat)(d:Nat)(e:Nat):Obj:={cls:=.type "type" ,data:=.cls {name:=Str.ofString a ,bases:=[.ref 24] ,mro:=[.ref b ,.ref 24 ,.type "ValueError" ,.type "Exception" ,.type "BaseException" ,.type "object"] ,ns:=c ,qualname:=Str.ofString a} ,slots:=#[some (.ref d) ,none ,some (.str (Str.ofString a) e) ,some (.str (Str.ofString a) (e+8)) ,some (.builtin "ValueError.__new__") ,some (.bool true)]}
def hX (P:Params)(a:Nat)(b:Int)(c:Nat):Obj:={cls:=.type "dict" ,data:=.dict #[{hash:=PyData.keyHash P ("__module__") ,key:=.str ("__module__") a ,val:=.str ("leastdeeds.errors") 187} ,{hash:=PyData.keyHash P ("__firstlineno__") ,key:=.str ("__firstlineno__") (a+4) ,val:=.int b (a+3)} ,{hash:=PyData.keyHash P ("__static_attributes__") ,key:=.str ("__static_attributes__") (a+5) ,val:=.ref c} ,{hash:=PyData.keyHash P ("__doc__") ,key:=.str ("__doc__") (a+6) ,val:=.none}] 2}
def kT (a:String)(b:Nat):Obj:={cls:=.none ,data:=.func {name:=Str.ofString a ,qualname:=Str.ofString a ,params:=tZ (j7 b) ,body:=PySem.FuncBody.stmts (tY (j7 b)) ,scope:=qH (j7 b) ,globals:=0 ,closure:=[] ,defaults:=.none ,kwdefaults:=.none ,pyModule:=.none ,code:=.none}}
def bX (a:String)(b:Nat)(c:String)(d:Nat)(e:Nat):Obj:={cls:=.type "function" ,data:=.func {name:=Str.ofString a ,qualname:=Str.ofString a ,params:=tZ (j7 b) ,body:=PySem.FuncBody.stmts (tY (j7 b)) ,scope:=qH (j7 b) ,globals:=3 ,closure:=[] ,defaults:=.none ,kwdefaults:=.none ,pyModule:=.str (Str.ofString c) d ,code:=.ref e}}
def i9 (a:String)(b:Nat)(c:Int)(d:Int)(e:Nat)(f:Int):Obj:={cls:=.type "code" ,data:=.fields #[.str (Str.ofString a) b ,.str (Str.ofString a) (b+1) ,.str ("/claim/cut.py") (b+2) ,.int c 0 ,.int d 0 ,.int 0 0 ,.int 0 0 ,.int 3 0 ,.ref e ,.bool true ,.int 181 0 ,.ref (e+1) ,.none ,.none ,.none ,.ref (e+2) ,.int f 0 ,.int c 0 ,.str ("/claim/cut.py") (b+4)]}
def GJ (a:Nat)(b:String):Obj:={cls:=.type "tuple" ,data:=.seq #[.str ("words") a ,.str ("places") (a+1) ,.str ("parts") (a+2) ,.str ("at") (a+3) ,.str (Str.ofString b) (a+4) ,.str ("price") (a+5)]}
def GI (P:Params)(a:Nat)(b:Nat):Obj:={cls:=.type "dict" ,data:=.dict #[{hash:=PyData.keyHash P ("turn") ,key:=.str ("turn") a ,val:=.ref b} ,{hash:=PyData.keyHash P ("join") ,key:=.str ("join") (a+1) ,val:=.ref (b+7)} ,{hash:=PyData.keyHash P ("move") ,key:=.str ("move") (a+2) ,val:=.ref (b+14)} ,{hash:=PyData.keyHash P ("put") ,key:=.str ("put") (a+3) ,val:=.ref (b+21)}] 4}
def Kl:Obj:={cls:=.type "type" ,data:=.cls {name:="DeedError" ,bases:=[.type "ValueError"] ,mro:=[.ref 24 ,.type "ValueError" ,.type "Exception" ,.type "BaseException" ,.type "object"] ,ns:=23 ,qualname:="DeedError" ,subclasses:=[.ref 44 ,.ref 63 ,.ref 82 ,.ref 94 ,.ref 106 ,.ref 118 ,.ref 130 ,.ref 142 ,.ref 154 ,.ref 166 ,.ref 178 ,.ref 190 ,.ref 202 ,.ref 214]} ,slots:=#[some (.ref 15) ,none ,some (.str ("DeedError") 189) ,some (.str ("DeedError") 197) ,some (.builtin "ValueError.__new__") ,some (.bool true)]}
noncomputable def kh:Params->PySem.W.Frag:=fun P=>[(2,{cls:=.none,data:=.dict #[]}),
 (3,{cls:=.type "dict",data:=.dict #[eN P "__name__" 165 (.str gE 750),eN P "__doc__" 166 (.none),eN P "__package__" 167 (.none),eN P "__loader__" 168 (.builtin "__main__.__loader__#opaque"),eN P "__spec__" 169 (.none),eN P "__annotations__" 170 (.ref 6),eN P "__builtins__" 171 (.ref 4),eN P "__file__" 173 (.str "/claim/cut.py" 172),eN P "__cached__" 174 (.none),eN P "DeedError" 206 (.ref 24),eN P "NoRow" 231 (.ref 44),eN P "NoRule" 256 (.ref 63),eN P "NoStep" 281 (.ref 82),eN P "NoMachine" 297 (.ref 94),eN P "TooLong" 313 (.ref 106),eN P "NoWord" 329 (.ref 118),eN P "NoWork" 345 (.ref 130),eN P "NoBound" 361 (.ref 142),eN P "TooMany" 377 (.ref 154),eN P "NoPlace" 393 (.ref 166),eN P "NoDeed" 409 (.ref 178),eN P "Nothing" 425 (.ref 190),eN P "NoText" 441 (.ref 202),eN P "NoLine" 457 (.ref 214),eN P "is_between" 468 (.ref 223),eN P "LEAST_WORDS" 472 (.int 2 471),eN P "MOST_WORDS" 474 (.int 4 473),eN P "MOST_PLACES" 476 (.int 2 475),eN P "MOST_DEEDS" 478 (.int 6 477),eN P "MOST_COST" 480 (.int 3 479),eN P "LONGEST_ROW" 482 (.int 40 481),eN P "is_word" 490 (.ref 230),eN P "is_place" 498 (.ref 237),eN P "is_cost" 505 (.ref 244),eN P "is_tuple_of" 513 (.ref 251),eN P "is_table" 519 (.ref 256),eN P "is_double_table" 525 (.ref 261),eN P "is_turn" 537 (.ref 268),eN P "is_join" 550 (.ref 275),eN P "is_move" 562 (.ref 282),eN P "is_put" 574 (.ref 289),eN P "SORTS" 583 (.ref 290),eN P "is_deed" 594 (.ref 297),eN P "is_machine" 600 (.ref 302),eN P "need_machine" 607 (.ref 309),eN P "is_beginning" 613 (.ref 314),eN P "beginnings" 619 (.ref 319),eN P "is_deed_number" 627 (.ref 326),eN P "need_numbers" 637 (.ref 333),eN P "need_row" 645 (.ref 340),eN P "turned" 659 (.ref 347),eN P "joined" 672 (.ref 354),eN P "moved" 684 (.ref 361),eN P "put_in" 696 (.ref 368),eN P "NEW_WORDS" 705 (.ref 369),eN P "done" 715 (.ref 376),eN P "all_standing" 726 (.ref 383),eN P "run" 735 (.ref 390),eN P "ends_of" 741 (.ref 395),eN P "behaviour" 749 (.ref 402),eN P "_law_spread" 763 (.ref 409),eN P "_law_open" 773 (.ref 416),eN P "_law_anew" 780 (.ref 423),eN P "_law_take" 791 (.ref 430),eN P "_law_sign_but" 797 (.ref 435),eN P "_law_any_sign" 804 (.ref 442),eN P "_law_signed" 813 (.ref 449),eN P "_law_is_whole" 820 (.ref 456),eN P "_law_same" 826 (.ref 461),eN P "_law_tab" 832 (.ref 466),eN P "_law_deed" 838 (.ref 471),eN P "_law_machine" 852 (.ref 478),eN P "_law_row" 858 (.ref 483),eN P "_law_is_in" 867 (.ref 490),eN P "_law_numbers" 873 (.ref 495),eN P "_law_is_deed" 879 (.ref 500),eN P "_law_is_machine" 885 (.ref 505),eN P "_law_row_due" 895 (.ref 512),eN P "_law_bent" 910 (.ref 519),eN P "_law_refusal" 919 (.ref 526),eN P "_law_told" 931 (.ref 533),eN P "_law_due" 942 (.ref 540),eN P "law" 948 (.ref 545)] 83}),
 (23,o7 P 196 2 "__static_attributes__" 201 22 "__weakref__" 25 3),
 (24,Kl),
 (40,cF "__init__" 219 "NoRow.__init__" 6 2 35 224 225),
 (41,CS "NoRow.__init__" 2 40),
 (43,o7 P 214 4 "__init__" 226 41 "__static_attributes__" 42 2),
 (44,fq "NoRow" 44 43 28 207),
 (62,o7 P 239 9 "__init__" 251 60 "__static_attributes__" 61 2),
 (63,fq "NoRule" 63 62 47 232),
 (81,o7 P 264 14 "__init__" 276 79 "__static_attributes__" 80 2),
 (82,fq "NoStep" 82 81 66 257),
 (93,hX P 289 19 92),
 (94,fq "NoMachine" 94 93 85 282),
 (105,hX P 305 21 104),
 (106,fq "TooLong" 106 105 97 298),
 (117,hX P 321 23 116),
 (118,fq "NoWord" 118 117 109 314),
 (129,hX P 337 25 128),
 (130,fq "NoWork" 130 129 121 330),
 (141,hX P 353 27 140),
 (142,fq "NoBound" 142 141 133 346),
 (153,hX P 369 29 152),
 (154,fq "TooMany" 154 153 145 362),
 (165,hX P 385 31 164),
 (166,fq "NoPlace" 166 165 157 378),
 (177,hX P 401 33 176),
 (178,fq "NoDeed" 178 177 169 394),
 (189,hX P 417 35 188),
 (190,fq "Nothing" 190 189 181 410),
 (201,hX P 433 37 200),
 (202,fq "NoText" 202 201 193 426),
 (213,hX P 449 39 212),
 (214,fq "NoLine" 214 213 205 442),
 (222,cF "is_between" 460 "is_between" 42 3 217 466 467),
 (223,bX "is_between" 17 "leastdeeds.wholes" 458 222),
 (229,cF "is_word" 483 "is_word" 53 2 224 488 489),
 (230,bX "is_word" 25 "leastdeeds.machines" 469 229),
 (236,cF "is_place" 491 "is_place" 55 2 231 496 497),
 (237,bX "is_place" 26 "leastdeeds.machines" 469 236),
 (243,cF "is_cost" 499 "is_cost" 57 1 238 503 504),
 (244,bX "is_cost" 27 "leastdeeds.machines" 469 243),
 (250,cF "is_tuple_of" 506 "is_tuple_of" 59 2 245 511 512),
 (251,bX "is_tuple_of" 28 "leastdeeds.machines" 469 250),
 (255,i9 "is_table" 514 61 2 252 517),
 (256,bX "is_table" 29 "leastdeeds.machines" 469 255),
 (260,i9 "is_double_table" 520 63 2 257 523),
 (261,bX "is_double_table" 30 "leastdeeds.machines" 469 260),
 (267,cF "is_turn" 526 "is_turn" 65 3 262 535 536),
 (268,bX "is_turn" 31 "leastdeeds.machines" 469 267),
 (274,cF "is_join" 538 "is_join" 70 3 269 548 549),
 (275,bX "is_join" 32 "leastdeeds.machines" 469 274),
 (281,cF "is_move" 551 "is_move" 77 3 276 560 561),
 (282,bX "is_move" 33 "leastdeeds.machines" 469 281),
 (288,cF "is_put" 563 "is_put" 82 3 283 572 573),
 (289,bX "is_put" 34 "leastdeeds.machines" 469 288),
 (290,GI P 575 268),
 (296,cF "is_deed" 584 "is_deed" 88 3 291 592 593),
 (297,bX "is_deed" 36 "leastdeeds.machines" 469 296),
 (301,i9 "is_machine" 595 96 1 298 598),
 (302,bX "is_machine" 37 "leastdeeds.machines" 469 301),
 (308,cF "need_machine" 601 "need_machine" 105 1 303 605 606),
 (309,bX "need_machine" 38 "leastdeeds.machines" 469 308),
 (313,i9 "is_beginning" 608 108 2 310 611),
 (314,bX "is_beginning" 39 "leastdeeds.machines" 469 313),
 (318,i9 "beginnings" 614 111 1 315 617),
 (319,bX "beginnings" 40 "leastdeeds.machines" 469 318),
 (325,cF "is_deed_number" 620 "is_deed_number" 118 2 320 625 626),
 (326,bX "is_deed_number" 41 "leastdeeds.machines" 469 325),
 (332,cF "need_numbers" 628 "need_numbers" 120 2 327 635 636),
 (333,bX "need_numbers" 42 "leastdeeds.machines" 469 332),
 (339,cF "need_row" 638 "need_row" 126 2 334 643 644),
 (340,bX "need_row" 43 "leastdeeds.machines" 469 339),
 (346,cF "turned" 648 "turned" 132 2 341 657 658),
 (347,bX "turned" 45 "leastdeeds.runs" 646 346),
 (353,cF "joined" 660 "joined" 135 2 348 670 671),
 (354,bX "joined" 46 "leastdeeds.runs" 646 353),
 (360,cF "moved" 673 "moved" 138 2 355 682 683),
 (361,bX "moved" 47 "leastdeeds.runs" 646 360),
 (367,cF "put_in" 685 "put_in" 141 2 362 694 695),
 (368,bX "put_in" 48 "leastdeeds.runs" 646 367),
 (369,GI P 697 347),
 (375,cF "done" 706 "done" 145 2 370 713 714),
 (376,bX "done" 50 "leastdeeds.runs" 646 375),
 (382,cF "all_standing" 716 "all_standing" 149 3 377 724 725),
 (383,bX "all_standing" 51 "leastdeeds.runs" 646 382),
 (389,cF "run" 727 "run" 154 3 384 733 734),
 (390,bX "run" 52 "leastdeeds.runs" 646 389),
 (394,i9 "ends_of" 736 159 2 391 739),
 (395,bX "ends_of" 53 "leastdeeds.runs" 646 394),
 (401,cF "behaviour" 742 "behaviour" 161 2 396 747 748),
 (402,bX "behaviour" 54 "leastdeeds.runs" 646 401),
 (408,cF "_law_spread" 752 "_law_spread" 165 2 403 761 762),
 (409,bX "_law_spread" 56 gE 750 408),
 (415,cF "_law_open" 764 "_law_open" 174 1 410 771 772),
 (416,bX "_law_open" 57 gE 750 415),
 (422,cF "_law_anew" 774 "_law_anew" 179 1 417 778 779),
 (423,bX "_law_anew" 58 gE 750 422),
 (429,cF "_law_take" 781 "_law_take" 182 2 424 789 790),
 (430,bX "_law_take" 59 gE 750 429),
 (434,i9 "_law_sign_but" 792 195 2 431 795),
 (435,bX "_law_sign_but" 60 gE 750 434),
 (441,cF "_law_any_sign" 798 "_law_any_sign" 200 1 436 802 803),
 (442,bX "_law_any_sign" 61 gE 750 441),
 (448,cF "_law_signed" 805 "_law_signed" 202 2 443 811 812),
 (449,bX "_law_signed" 62 gE 750 448),
 (455,cF "_law_is_whole" 814 "_law_is_whole" 205 1 450 818 819),
 (456,bX "_law_is_whole" 63 gE 750 455),
 (460,i9 "_law_same" 821 207 2 457 824),
 (461,bX "_law_same" 64 gE 750 460),
 (465,i9 "_law_tab" 827 221 2 462 830),
 (466,bX "_law_tab" 65 gE 750 465),
 (470,i9 "_law_deed" 833 237 3 467 836),
 (471,bX "_law_deed" 66 gE 750 470),
 (477,cF "_law_machine" 839 "_law_machine" 249 4 472 850 851),
 (478,bX "_law_machine" 67 gE 750 477),
 (482,i9 "_law_row" 853 260 3 479 856),
 (483,bX "_law_row" 68 gE 750 482),
 (489,cF "_law_is_in" 859 "_law_is_in" 267 3 484 865 866),
 (490,bX "_law_is_in" 69 gE 750 489),
 (494,i9 "_law_numbers" 868 269 4 491 871),
 (495,bX "_law_numbers" 70 gE 750 494),
 (499,i9 "_law_is_deed" 874 273 3 496 877),
 (500,bX "_law_is_deed" 71 gE 750 499),
 (504,i9 "_law_is_machine" 880 291 1 501 883),
 (505,bX "_law_is_machine" 72 gE 750 504),
 (511,cF "_law_row_due" 886 "_law_row_due" 297 2 506 893 894),
 (512,bX "_law_row_due" 73 gE 750 511),
 (518,cF "_law_bent" 896 "_law_bent" 306 3 513 908 909),
 (519,bX "_law_bent" 74 gE 750 518),
 (525,cF "_law_refusal" 911 "_law_refusal" 323 1 520 917 918),
 (526,bX "_law_refusal" 75 gE 750 525),
 (532,cF "_law_told" 920 "_law_told" 339 4 527 929 930),
 (533,bX "_law_told" 76 gE 750 532),
 (539,cF "_law_due" 932 "_law_due" 349 4 534 940 941),
 (540,bX "_law_due" 77 gE 750 539),
 (544,i9 "law" 943 356 1 541 946),
 (545,bX "law" 78 gE 750 544)]
def HF:List Addr:=[2,3,23,24,40,41,43,44,62,63,81,82,93,94,105,106,117,118,129,130,141,142,153,154,165,166,177,178,189,190,201,202,213,214,222,223,229,230,236,237,243,244,250,251,255,256,260,261,267,268,274,275,281,282,288,289,290,296,297,301,302,308,309,313,314,318,319,325,326,332,333,339,340,346,347,353,354,360,361,367,368,369,375,376,382,383,389,390,394,395,401,402,408,409,415,416,422,423,429,430,434,435,441,442,448,449,455,456,460,461,465,466,470,471,477,478,482,483,489,490,494,495,499,500,504,505,511,512,518,519,525,526,532,533,539,540,544,545]
theorem LX:∀P,HF=(kh P).map (·.1):=fun _=>by kernel_rfl
def kq:Program:=PySem.W.view PySem.Challenge.pw_leastdeeds_k06_what_is_refused_of_runs [1,2,3,4,5,6,7,8,9,10,11,12,13,14,15,17,19,20,21,22,23,24,25,26,27,28,29,30,31,32,33,34,35,36,37,38,39,40,41,42,43,45,46,47,48,49,50,51,52,53,54,56,57,58,59,60,61,62,63,64,65,66,67,68,69,70,71,72,73,74,75,76,77,78]
abbrev kH:PySem.W.Hook:=PySem.W.kHook kh HF LX
def qG:List Str:=["SORTS","NEW_WORDS"]
abbrev xY:=PySem.Challenge.rw_leastdeeds_k06_what_is_refused_of_runs.row
abbrev kX:Shared->Bool:=fun s=>PySem.W.xlAt kq [] s&&PySem.W.recOk (PySem.W.RowW.records xY.toRowW) s
noncomputable def kL (P:Params):List Obj:=[o1,
 {cls:=.none,data:=.fields #[.int 2 0,.int 0 0,.ref 20,.int 4 0,.int 0 0,.ref 33,.int 9 0,.int 0 0,.ref 52,.int 14 0,.int 0 0,.ref 71,.int 19 0,.int 0 0,.ref 90,.int 21 0,.int 0 0,.ref 102,.int 23 0,.int 0 0,.ref 114,.int 25 0,.int 0 0,.ref 126,.int 27 0,.int 0 0,.ref 138]},
 o2 "<module>" 182 1 11 185,
 o3 13 3 "__main__" 164,
 {cls:=.type "tuple",data:=.seq #[.type "ValueError"]},
 o4,
 o5 P 196 "DeedError" 2 22,
 o1,
 o6,
 o2 "DeedError" 191 2 18 194,
 o3 20 17 "leastdeeds.errors" 187,
 o1,
 o7 P 196 2 "__static_attributes__" 201 22 "__weakref__" 25 3,
 {cls:=.type "type",data:=.cls {name:="DeedError",bases:=[.type "ValueError"],mro:=[.ref 24,.type "ValueError",.type "Exception",.type "BaseException",.type "object"],ns:=23,qualname:="DeedError",subclasses:=[.ref 44,.ref 63,.ref 82,.ref 94,.ref 106,.ref 118,.ref 130,.ref 142]},slots:=#[some (.ref 15),none,some (.str "DeedError" 189),some (.str "DeedError" 197),some (.builtin "ValueError.__new__"),some (.bool true)]},
 {cls:=.type "getset_descriptor",data:=.fields #[.str "__weakref__" 202,.ref 24,.builtin "ExceptionGroup.__weakref__",.none]},
 o8 24,
 o9 24,
 lB,
 o4,
 GN P 214 "NoRow" 4 41,
 o1,
 GL 6 40,
 o2 "NoRow" 209 4 31 212,
 o3 33 30 "leastdeeds.errors" 187,
 o1,
 o6,
 wo "self" 222 "place",
 o1,
 GK "NoRow.__init__" 2,
 cF "__init__" 219 "NoRow.__init__" 6 2 35 224 225,
 CS "NoRow.__init__" 2 40,
 zC "place" 227,
 o7 P 214 4 "__init__" 226 41 "__static_attributes__" 42 2,
 fq "NoRow" 44 43 28 207,
 o8 44,
 o9 44,
 lB,
 o4,
 GN P 239 "NoRule" 9 60,
 o1,
 GL 11 59,
 o2 "NoRule" 234 9 50 237,
 o3 52 49 "leastdeeds.errors" 187,
 o1,
 o6,
 wo "self" 247 "number",
 o1,
 GK "NoRule.__init__" 3,
 cF "__init__" 244 "NoRule.__init__" 11 2 54 249 250,
 CS "NoRule.__init__" 3 59,
 zC "number" 252,
 o7 P 239 9 "__init__" 251 60 "__static_attributes__" 61 2,
 fq "NoRule" 63 62 47 232,
 o8 63,
 o9 63,
 lB,
 o4,
 GN P 264 "NoStep" 14 79,
 o1,
 GL 16 78,
 o2 "NoStep" 259 14 69 262,
 o3 71 68 "leastdeeds.errors" 187,
 o1,
 o6,
 wo "self" 272 "place",
 o1,
 GK "NoStep.__init__" 4,
 cF "__init__" 269 "NoStep.__init__" 16 2 73 274 275,
 CS "NoStep.__init__" 4 78,
 zC "place" 277,
 o7 P 264 14 "__init__" 276 79 "__static_attributes__" 80 2,
 fq "NoStep" 82 81 66 257,
 o8 82,
 o9 82,
 lB,
 o4,
 o5 P 289 "NoMachine" 19 92,
 o1,
 o6,
 o2 "NoMachine" 284 19 88 287,
 o3 90 87 "leastdeeds.errors" 187,
 o1,
 hX P 289 19 92,
 fq "NoMachine" 94 93 85 282,
 o8 94,
 o9 94,
 lB,
 o4,
 o5 P 305 "TooLong" 21 104,
 o1,
 o6,
 o2 "TooLong" 300 21 100 303,
 o3 102 99 "leastdeeds.errors" 187,
 o1,
 hX P 305 21 104,
 fq "TooLong" 106 105 97 298,
 o8 106,
 o9 106,
 lB,
 o4,
 o5 P 321 "NoWord" 23 116,
 o1,
 o6,
 o2 "NoWord" 316 23 112 319,
 o3 114 111 "leastdeeds.errors" 187,
 o1,
 hX P 321 23 116,
 fq "NoWord" 118 117 109 314,
 o8 118,
 o9 118,
 lB,
 o4,
 o5 P 337 "NoWork" 25 128,
 o1,
 o6,
 o2 "NoWork" 332 25 124 335,
 o3 126 123 "leastdeeds.errors" 187,
 o1,
 hX P 337 25 128,
 fq "NoWork" 130 129 121 330,
 o8 130,
 o9 130,
 lB,
 o4,
 o5 P 353 "NoBound" 27 140,
 o1,
 o6,
 o2 "NoBound" 348 27 136 351,
 o3 138 135 "leastdeeds.errors" 187,
 o1,
 hX P 353 27 140,
 fq "NoBound" 142 141 133 346,
 o8 142,
 o9 142]
noncomputable def kL2 (P:Params):List Obj:=(((kL P).set 1 ({cls:=.none,data:=.fields #[.int 2 0,.int 0 0,.ref 20,.int 4 0,.int 0 0,.ref 33,.int 9 0,.int 0 0,.ref 52,.int 14 0,.int 0 0,.ref 71,.int 19 0,.int 0 0,.ref 90,.int 21 0,.int 0 0,.ref 102,.int 23 0,.int 0 0,.ref 114,.int 25 0,.int 0 0,.ref 126,.int 27 0,.int 0 0,.ref 138,.int 29 0,.int 0 0,.ref 150,.int 31 0,.int 0 0,.ref 162,.int 33 0,.int 0 0,.ref 174,.int 35 0,.int 0 0,.ref 186,.int 37 0,.int 0 0,.ref 198,.int 39 0,.int 0 0,.ref 210,.int 42 0,.int 0 0,.ref 222,.int 53 0,.int 0 0,.ref 229,.int 55 0,.int 0 0,.ref 236,.int 57 0,.int 0 0,.ref 243,.int 59 0,.int 0 0,.ref 250,.int 61 0,.int 0 0,.ref 255,.int 63 0,.int 0 0,.ref 260,.int 65 0,.int 0 0,.ref 267,.int 70 0,.int 0 0,.ref 274,.int 77 0,.int 0 0,.ref 281,.int 82 0,.int 0 0,.ref 288,.int 88 0,.int 0 0,.ref 296,.int 96 0,.int 0 0,.ref 301,.int 105 0,.int 0 0,.ref 308,.int 108 0,.int 0 0,.ref 313]})).set 13 (Kl))++[lB,
 o4,
 o5 P 369 "TooMany" 29 152,
 o1,
 o6,
 o2 "TooMany" 364 29 148 367,
 o3 150 147 "leastdeeds.errors" 187,
 o1,
 hX P 369 29 152,
 fq "TooMany" 154 153 145 362,
 o8 154,
 o9 154,
 lB,
 o4,
 o5 P 385 "NoPlace" 31 164,
 o1,
 o6,
 o2 "NoPlace" 380 31 160 383,
 o3 162 159 "leastdeeds.errors" 187,
 o1,
 hX P 385 31 164,
 fq "NoPlace" 166 165 157 378,
 o8 166,
 o9 166,
 lB,
 o4,
 o5 P 401 "NoDeed" 33 176,
 o1,
 o6,
 o2 "NoDeed" 396 33 172 399,
 o3 174 171 "leastdeeds.errors" 187,
 o1,
 hX P 401 33 176,
 fq "NoDeed" 178 177 169 394,
 o8 178,
 o9 178,
 lB,
 o4,
 o5 P 417 "Nothing" 35 188,
 o1,
 o6,
 o2 "Nothing" 412 35 184 415,
 o3 186 183 "leastdeeds.errors" 187,
 o1,
 hX P 417 35 188,
 fq "Nothing" 190 189 181 410,
 o8 190,
 o9 190,
 lB,
 o4,
 o5 P 433 "NoText" 37 200,
 o1,
 o6,
 o2 "NoText" 428 37 196 431,
 o3 198 195 "leastdeeds.errors" 187,
 o1,
 hX P 433 37 200,
 fq "NoText" 202 201 193 426,
 o8 202,
 o9 202,
 lB,
 o4,
 o5 P 449 "NoLine" 39 212,
 o1,
 o6,
 o2 "NoLine" 444 39 208 447,
 o3 210 207 "leastdeeds.errors" 187,
 o1,
 hX P 449 39 212,
 fq "NoLine" 214 213 205 442,
 o8 214,
 o9 214,
 o1,
 o6,
 {cls:=.type "tuple",data:=.seq #[.str "thing" 463,.str "low" 464,.str "high" 465]},
 o1,
 kT "is_between" 17,
 cF "is_between" 460 "is_between" 42 3 217 466 467,
 bX "is_between" 17 "leastdeeds.wholes" 458 222,
 o1,
 o6,
 wo "words" 486 "thing",
 o1,
 kT "is_word" 25,
 cF "is_word" 483 "is_word" 53 2 224 488 489,
 bX "is_word" 25 "leastdeeds.machines" 469 229,
 o1,
 o6,
 wo "places" 494 "thing",
 o1,
 kT "is_place" 26,
 cF "is_place" 491 "is_place" 55 2 231 496 497,
 bX "is_place" 26 "leastdeeds.machines" 469 236,
 o1,
 o6,
 zC "thing" 502,
 o1,
 kT "is_cost" 27,
 cF "is_cost" 499 "is_cost" 57 1 238 503 504,
 bX "is_cost" 27 "leastdeeds.machines" 469 243,
 o1,
 o6,
 wo "long" 509 "thing",
 o1,
 kT "is_tuple_of" 28,
 cF "is_tuple_of" 506 "is_tuple_of" 59 2 245 511 512,
 bX "is_tuple_of" 28 "leastdeeds.machines" 469 250,
 o1,
 o6,
 kT "is_table" 29,
 i9 "is_table" 514 61 2 252 517,
 bX "is_table" 29 "leastdeeds.machines" 469 255,
 o1,
 o6,
 kT "is_double_table" 30,
 i9 "is_double_table" 520 63 2 257 523,
 bX "is_double_table" 30 "leastdeeds.machines" 469 260,
 o1,
 o6,
 GJ 529 "table",
 o1,
 kT "is_turn" 31,
 cF "is_turn" 526 "is_turn" 65 3 262 535 536,
 bX "is_turn" 31 "leastdeeds.machines" 469 267,
 o1,
 o6,
 {cls:=.type "tuple",data:=.seq #[.str "words" 541,.str "places" 542,.str "parts" 543,.str "at" 544,.str "other" 545,.str "table" 546,.str "price" 547]},
 o1,
 kT "is_join" 32,
 cF "is_join" 538 "is_join" 70 3 269 548 549,
 bX "is_join" 32 "leastdeeds.machines" 469 274,
 o1,
 o6,
 GJ 554 "other",
 o1,
 kT "is_move" 33,
 cF "is_move" 551 "is_move" 77 3 276 560 561,
 bX "is_move" 33 "leastdeeds.machines" 469 281,
 o1,
 o6,
 GJ 566 "word",
 o1,
 kT "is_put" 34,
 cF "is_put" 563 "is_put" 82 3 283 572 573,
 bX "is_put" 34 "leastdeeds.machines" 469 288,
 GI P 575 268,
 o1,
 o6,
 {cls:=.type "tuple",data:=.seq #[.str "words" 587,.str "places" 588,.str "thing" 589,.str "sort" 590,.str "is_sort" 591]},
 o1,
 kT "is_deed" 36,
 cF "is_deed" 584 "is_deed" 88 3 291 592 593,
 bX "is_deed" 36 "leastdeeds.machines" 469 296,
 o1,
 o6,
 kT "is_machine" 37,
 i9 "is_machine" 595 96 1 298 598,
 bX "is_machine" 37 "leastdeeds.machines" 469 301,
 o1,
 o6,
 zC "thing" 604,
 o1,
 kT "need_machine" 38,
 cF "need_machine" 601 "need_machine" 105 1 303 605 606,
 bX "need_machine" 38 "leastdeeds.machines" 469 308,
 o1,
 o6,
 kT "is_beginning" 39,
 i9 "is_beginning" 608 108 2 310 611,
 bX "is_beginning" 39 "leastdeeds.machines" 469 313]
def kM (P:Params)(os:OsState):PySem.W.SharedT:=⟨HD.treeOf ((((PySem.W.boot_heap P).objs.toList.set 3 ({cls:=.type "dict",data:=.dict #[eN P "__name__" 165 (.str "leastdeeds.errors" 187),eN P "__doc__" 166 (.none),eN P "__package__" 167 (.none),eN P "__loader__" 168 (.builtin "__main__.__loader__#opaque"),eN P "__spec__" 169 (.none),eN P "__annotations__" 170 (.ref 6),eN P "__builtins__" 171 (.ref 4),eN P "__file__" 173 (.str "/claim/cut.py" 172),eN P "__cached__" 174 (.none),eN P "DeedError" 206 (.ref 24),eN P "NoRow" 231 (.ref 44),eN P "NoRule" 256 (.ref 63),eN P "NoStep" 281 (.ref 82),eN P "NoMachine" 297 (.ref 94),eN P "TooLong" 313 (.ref 106),eN P "NoWord" 329 (.ref 118),eN P "NoWork" 345 (.ref 130),eN P "NoBound" 361 (.ref 142)] 18})))++kL P) 0 .nil,145,{},#[],{},362,os⟩
noncomputable def CZ (P:Params)(os:OsState):PySem.W.SharedT:=⟨HD.treeOf ((((PySem.W.boot_heap P).objs.toList.set 3 ({cls:=.type "dict",data:=.dict #[eN P "__name__" 165 (.str "leastdeeds.machines" 469),eN P "__doc__" 166 (.none),eN P "__package__" 167 (.none),eN P "__loader__" 168 (.builtin "__main__.__loader__#opaque"),eN P "__spec__" 169 (.none),eN P "__annotations__" 170 (.ref 6),eN P "__builtins__" 171 (.ref 4),eN P "__file__" 173 (.str "/claim/cut.py" 172),eN P "__cached__" 174 (.none),eN P "DeedError" 206 (.ref 24),eN P "NoRow" 231 (.ref 44),eN P "NoRule" 256 (.ref 63),eN P "NoStep" 281 (.ref 82),eN P "NoMachine" 297 (.ref 94),eN P "TooLong" 313 (.ref 106),eN P "NoWord" 329 (.ref 118),eN P "NoWork" 345 (.ref 130),eN P "NoBound" 361 (.ref 142),eN P "TooMany" 377 (.ref 154),eN P "NoPlace" 393 (.ref 166),eN P "NoDeed" 409 (.ref 178),eN P "Nothing" 425 (.ref 190),eN P "NoText" 441 (.ref 202),eN P "NoLine" 457 (.ref 214),eN P "is_between" 468 (.ref 223),eN P "LEAST_WORDS" 472 (.int 2 471),eN P "MOST_WORDS" 474 (.int 4 473),eN P "MOST_PLACES" 476 (.int 2 475),eN P "MOST_DEEDS" 478 (.int 6 477),eN P "MOST_COST" 480 (.int 3 479),eN P "LONGEST_ROW" 482 (.int 40 481),eN P "is_word" 490 (.ref 230),eN P "is_place" 498 (.ref 237),eN P "is_cost" 505 (.ref 244),eN P "is_tuple_of" 513 (.ref 251),eN P "is_table" 519 (.ref 256),eN P "is_double_table" 525 (.ref 261),eN P "is_turn" 537 (.ref 268),eN P "is_join" 550 (.ref 275),eN P "is_move" 562 (.ref 282),eN P "is_put" 574 (.ref 289),eN P "SORTS" 583 (.ref 290),eN P "is_deed" 594 (.ref 297),eN P "is_machine" 600 (.ref 302),eN P "need_machine" 607 (.ref 309),eN P "is_beginning" 613 (.ref 314)] 46})))++kL2 P) 0 .nil,315,{},#[],{},614,os⟩
def kE:Env:={scope:=PySem.Challenge.pw_leastdeeds_k06_what_is_refused_of_runs.main.scope,locals:=mainNs,globals:=mainNs,cells:=[],code:=.ref 13,frame:=some 14}
def kP (w:World)(os:OsState):=HD.wF treeTable PySem.Challenge.pw_leastdeeds_k06_what_is_refused_of_runs w 11 (some (.ref 6)) 12 (HD.yp w.params os) (PySem.W.topStub PySem.Challenge.pw_leastdeeds_k06_what_is_refused_of_runs)
def kU (w:World)(os:OsState):=(kP w os).bind fun x=>HD.nA treeTable PySem.Challenge.pw_leastdeeds_k06_what_is_refused_of_runs w 11 (some (.ref 6)) 1996 x.1 (PySem.W.piecesOf ((PySem.W.behindTheImports PySem.Challenge.pw_leastdeeds_k06_what_is_refused_of_runs).take 10) kE (.body (PySem.W.behindTheImports PySem.Challenge.pw_leastdeeds_k06_what_is_refused_of_runs) kE) ⟨0,0,0,0⟩ [PySem.W.topFrame ⟨0,0,0,0⟩])
def kV (w:World)(os:OsState):Option (Flow×PySem.W.SharedT×Code×Pos):=some (.next,kM w.params os,(.body (PySem.W.behindTheImports PySem.Challenge.pw_leastdeeds_k06_what_is_refused_of_runs) kE),⟨27,0,28,8⟩)
def CY (w:World)(os:OsState):=HD.nA treeTable PySem.Challenge.pw_leastdeeds_k06_what_is_refused_of_runs w 11 (some (.ref 6)) 1878 (kM w.params os) (PySem.W.piecesOf (((PySem.W.behindTheImports PySem.Challenge.pw_leastdeeds_k06_what_is_refused_of_runs).drop 10).take 30) kE (.body (PySem.W.behindTheImports PySem.Challenge.pw_leastdeeds_k06_what_is_refused_of_runs) kE) ⟨27,0,28,8⟩ [PySem.W.topFrame ⟨0,0,0,0⟩])
def CW (w:World)(os:OsState):Option (Flow×PySem.W.SharedT×Code×Pos):=some (.next,CZ w.params os,(.body (PySem.W.behindTheImports PySem.Challenge.pw_leastdeeds_k06_what_is_refused_of_runs) kE),⟨108,0,110,87⟩)
def kR (w:World)(os:OsState):=(HD.lX treeTable PySem.Challenge.pw_leastdeeds_k06_what_is_refused_of_runs w 11 (some (.ref 6)) 6351 (CZ w.params os) (PySem.W.restOf (((PySem.W.behindTheImports PySem.Challenge.pw_leastdeeds_k06_what_is_refused_of_runs).drop 10).drop 30) kE (.body (PySem.W.behindTheImports PySem.Challenge.pw_leastdeeds_k06_what_is_refused_of_runs) kE) ⟨108,0,110,87⟩ [PySem.W.topFrame ⟨0,0,0,0⟩])).map fun s=>HD.xQ PySem.Challenge.pw_leastdeeds_k06_what_is_refused_of_runs kq qG kX true (PySem.W.boot_heap w.params) (fun s=>HF.map s.heap.get?) s.abs
def kG (w:World):=some (true,PySem.W.openGood kq qG,(kh w.params).map fun p=>some p.2)
def _root_.PySem.W.Fast.tw17637105709878265010:Program:=PySem.Challenge.pw_leastdeeds_k06_what_is_refused_of_runs
theorem _root_.PySem.W.Fast.te17637105709878265010:PySem.Challenge.pw_leastdeeds_k06_what_is_refused_of_runs=PySem.W.Fast.tw17637105709878265010:=rfl
def _root_.PySem.W.Fast.tw803819280254771282:Params->PySem.W.Frag:=K06.kh
theorem _root_.PySem.W.Fast.te803819280254771282:K06.kh=PySem.W.Fast.tw803819280254771282:=rfl
def _root_.PySem.W.Fast.tw4642808687259790360:Params->OsState->PySem.W.SharedT:=K06.kM
theorem _root_.PySem.W.Fast.te4642808687259790360:K06.kM=PySem.W.Fast.tw4642808687259790360:=rfl
def _root_.PySem.W.Fast.tw14173779970063091200:Params->OsState->PySem.W.SharedT:=K06.CZ
theorem _root_.PySem.W.Fast.te14173779970063091200:K06.CZ=PySem.W.Fast.tw14173779970063091200:=rfl
theorem kRs:kR=kR:=rfl
name_quick kq06 for kR by kRs
theorem kGs:kG=kG:=rfl
name_quick kg06 for kG by kGs
theorem kUs:kU=kU:=rfl
name_quick ku06 for kU by kUs
theorem kVs:kV=kV:=rfl
name_quick kv06 for kV by kVs
theorem LZ:CY=CY:=rfl
name_quick kuu06 for CY by LZ
theorem LY:CW=CW:=rfl
name_quick kvv06 for CW by LY
theorem BU:∀(w:World) (os:OsState),PySem.W.Fast.ku06 (w.withFollow "special-get-raises" false) os=PySem.W.Fast.kv06 (w.withFollow "special-get-raises" false) os:=fun w os=>by kernel_rfl
theorem Eo:∀(w:World) (os:OsState),PySem.W.Fast.ku06 (w.withFollow "special-get-raises" true) os=PySem.W.Fast.kv06 (w.withFollow "special-get-raises" true) os:=fun w os=>by kernel_rfl
theorem ka:∀(w:World) (os:OsState),kU w os=kV w os:=fun w os=>by
 rw [PySem.W.Fast.ku06_eq,PySem.W.Fast.kv06_eq]
 exact PySem.W.byRow2 "special-get-raises" (P:=fun w=>PySem.W.Fast.ku06 w os=PySem.W.Fast.kv06 w os) (fun w=>BU w os) (fun w=>Eo w os) w
theorem BS:∀(w:World) (os:OsState),PySem.W.Fast.kuu06 (w.withFollow "special-get-raises" false) os=PySem.W.Fast.kvv06 (w.withFollow "special-get-raises" false) os:=fun w os=>by kernel_rfl
theorem En:∀(w:World) (os:OsState),PySem.W.Fast.kuu06 (w.withFollow "special-get-raises" true) os=PySem.W.Fast.kvv06 (w.withFollow "special-get-raises" true) os:=fun w os=>by kernel_rfl
theorem kb:∀(w:World) (os:OsState),CY w os=CW w os:=fun w os=>by
 rw [PySem.W.Fast.kuu06_eq,PySem.W.Fast.kvv06_eq]
 exact PySem.W.byRow2 "special-get-raises" (P:=fun w=>PySem.W.Fast.kuu06 w os=PySem.W.Fast.kvv06 w os) (fun w=>BS w os) (fun w=>En w os) w
theorem BR:∀(w:World) (os:OsState),PySem.W.Fast.kq06 (w.withFollow "special-get-raises" false) os=PySem.W.Fast.kg06 (w.withFollow "special-get-raises" false):=fun w os=>by kernel_rfl
theorem Em:∀(w:World) (os:OsState),PySem.W.Fast.kq06 (w.withFollow "special-get-raises" true) os=PySem.W.Fast.kg06 (w.withFollow "special-get-raises" true):=fun w os=>by kernel_rfl
theorem kl:∀(w:World) (os:OsState),kR w os=kG w:=fun w os=>by
 rw [PySem.W.Fast.kq06_eq,PySem.W.Fast.kg06_eq]
 exact PySem.W.byRow2 "special-get-raises" (P:=fun w=>PySem.W.Fast.kq06 w os=PySem.W.Fast.kg06 w) (fun w=>BR w os) (fun w=>Em w os) w
theorem kp:∀(w:World) (os:OsState),(kP w os).map (·.2)=some ⟨denote treeTable (.body (PySem.W.behindTheImports PySem.Challenge.pw_leastdeeds_k06_what_is_refused_of_runs) kE),(.body (PySem.W.behindTheImports PySem.Challenge.pw_leastdeeds_k06_what_is_refused_of_runs) kE),⟨0,0,0,0⟩,[PySem.W.topFrame ⟨0,0,0,0⟩]⟩:=fun w os=>by kernel_rfl
theorem Jz:PySem.W.LeftO xY.prog kq qG kX kH.obs kH.val 10238:=HD.vQ (m0:=11) (ann:=some (.ref 6)) (PySem.W.boot_open (by rfl) (by decide) (fun _=>rfl)) (fun w=>by kernel_rfl) fun w os=>HD.Ce (J:=10) (J2:=30) (kp w os) (by kernel_rfl) (ka w os) (kb w os) (kl w os)
end K06
namespace L2
open PySem PySem.Spec PyProof.Rows
abbrev Key:=Sum Int Str
def tX:Key->Value->Bool
 |.inl k,v=>Value.isInt k v
 |.inr x,v=>Value.isStrOf x v
def LW (w:World):Key->Int
 |.inl k=>hashInt k
 |.inr x=>hashStr w x
theorem dO:∀{k:Key}{v:Value},tX k v=true->(∃i t,k=Sum.inl i/\v=Value.int i t)\/(∃x t,k=Sum.inr x/\v=Value.str x t)
 | .inl i, v, h => by
   obtain ⟨t,e⟩:=Value.isInt_shape (k:=i) (v:=v) h
   exact .inl ⟨i,t,rfl,e⟩
 | .inr x, v, h => by
   obtain ⟨t,e⟩:=Value.isStrOf_shape (x:=x) (v:=v) h
   exact .inr ⟨x,t,rfl,e⟩
theorem lE (x:Str)(t:Tok):tX (.inr x) (.str x t)=true:=by simp [tX,Value.isStrOf]
theorem HE (a b:Int):decide ((Sum.inl a:Key)=Sum.inl b)=(a==b):=by
 by_cases e:a=b
 ·subst e;simp
 ·have h:¬ (Sum.inl a:Key)=Sum.inl b:=fun q=>e (Sum.inl.inj q)
  rw [decide_eq_false h]
  exact (beq_eq_false_iff_ne.mpr e).symm
theorem HA (a b:Str):decide ((Sum.inr a:Key)=Sum.inr b)=decide (a=b):=by
 by_cases e:a=b
 ·subst e;simp
 ·have h:¬ (Sum.inr a:Key)=Sum.inr b:=fun q=>e (Sum.inr.inj q)
  rw [decide_eq_false h,decide_eq_false e]
theorem HC (a:Int)(b:Str):decide ((Sum.inl a:Key)=Sum.inr b)=false:=decide_eq_false (fun q=>nomatch q)
theorem HB (a:Str)(b:Int):decide ((Sum.inr a:Key)=Sum.inl b)=false:=decide_eq_false (fun q=>nomatch q)
def ma (prog:Program)(w:World):PySem.KeyKind prog w Key where
 is:=tX
 hash:=LW w
 inj:=fun v a b ha hb=>by
  rcases dO ha with ⟨i,t,rfl,rfl⟩|⟨x,t,rfl,rfl⟩
  ·rcases dO hb with ⟨j,u,rfl,e⟩|⟨y,u,rfl,e⟩
   ·injection e with e1 _;rw [e1]
   ·exact nomatch e
  ·rcases dO hb with ⟨j,u,rfl,e⟩|⟨y,u,rfl,e⟩
   ·exact nomatch e
   ·injection e with e1 _;rw [e1]
 byValue:=fun k v h=>by
  rcases dO h with ⟨i,t,rfl,rfl⟩|⟨x,t,rfl,rfl⟩<;>rfl
 pyHash:=fun hv h=>by
  rcases dO hv with ⟨i,t,rfl,rfl⟩|⟨x,t,rfl,rfl⟩
  ·exact wpAny_pyHash_int h
  ·exact wpAny_pyHash_str h
 eqBool:=fun hu hv h=>by
  rcases dO hu with ⟨i,t,rfl,rfl⟩|⟨x,t,rfl,rfl⟩
  ·rcases dO hv with ⟨j,u,rfl,rfl⟩|⟨y,u,rfl,rfl⟩
   ·rw [HE] at h;exact wpAny_eqBool_int h
   ·rw [HC] at h;exact SeqAt.EqAt.int_str i t y u _ _ _ _ h
  ·rcases dO hv with ⟨j,u,rfl,rfl⟩|⟨y,u,rfl,rfl⟩
   ·rw [HB] at h;exact SeqAt.EqAt.str_int x t j u _ _ _ _ h
   ·rw [HA] at h;exact wpAny_eqBool_str h
 «strs»:=fun k x t v h=>by
  rcases dO h with ⟨i,u,rfl,e⟩|⟨y,u,rfl,e⟩
  ·exact nomatch e
  ·injection e with e1 _
   subst e1
   cases v<;>rfl
end L2
namespace L2
open PySem PySem.Spec PyProof.Rows
inductive V where
 |non|bl (b:Bool)|int (i:Int)|str (x:Str)|byt (b:Array UInt8)|flt (b:UInt64)|ref (a:Addr)|ty (n:String)
 deriving DecidableEq
def RelV:V->Value->Prop
 |.non,u=>u=Value.none
 |.bl b,u=>u=Value.bool b
 |.int i,u=>∃t,u=Value.int i t
 |.str x,u=>∃t,u=Value.str x t
 |.byt b,u=>∃t,u=Value.bytes b t
 |.flt b,u=>∃t,u=Value.float b t
 |.ref a,u=>u=Value.ref a
 |.ty n,u=>u=Value.type n
abbrev Vals:List V->List Value->Prop:=Paired RelV
theorem Vals.length {xs:List V}{us:List Value}(r:Vals xs us):xs.length=us.length:=Paired.length r
theorem Vals.get:∀{xs:List V}{us:List Value}{i:Nat}{x:V},Vals xs us->xs[i]?=some x->∃u,us[i]?=some u/\RelV x u
 |_,_,_,_,.nil,e=>by simp at e
 |_,_,0,_,.cons r _,e=>by simp at e;subst e;exact ⟨_,rfl,r⟩
 | _, _, i + 1, x, .cons _ t, e => by
   obtain ⟨u,h1,h2⟩:=Vals.get (i:=i) (x:=x) t (by simpa using e)
   exact ⟨u,by simpa using h1,h2⟩
theorem Vals.set {x:V}{u:Value}(r:RelV x u):∀{xs:List V}{us:List Value} (i:Nat),Vals xs us->Vals (xs.set i x) (us.set i u)
 |_,_,_,.nil=>.nil
 |_,_,0,.cons _ t=>.cons r t
 |_,_,i+1,.cons q t=>.cons q (Vals.set r i t)
theorem Vals.append:∀{xs ys:List V}{us ws:List Value},Vals xs us->Vals ys ws->Vals (xs++ys) (us++ws)
 |_,_,_,_,.nil,s=>s
 |_,_,_,_,.cons r t,s=>.cons r (Vals.append t s)
theorem Vals.take:∀{xs:List V}{us:List Value} (n:Nat),Vals xs us->Vals (xs.take n) (us.take n)
 |_,_,0,_=>.nil
 |_,_,_+1,.nil=>.nil
 |_,_,n+1,.cons r t=>.cons r (Vals.take n t)
theorem Vals.drop:∀{xs:List V}{us:List Value} (n:Nat),Vals xs us->Vals (xs.drop n) (us.drop n)
 |_,_,0,r=>r
 |_,_,_+1,.nil=>.nil
 |_,_,n+1,.cons _ t=>Vals.drop n t
def sm:Option V->Option Value->Prop
 |some v,some u=>RelV v u
 |none,none=>True
 |_,_=>False
def KV {κ:Type}:List (κ×V)->List (κ×Value)->Prop:=Paired fun (p:κ×V) (q:κ×Value)=>p.1=q.1/\RelV p.2 q.2
def kV:Key->V
 |.inl i=>.int i
 |.inr x=>.str x
inductive HO where
 |lst (xs:List V)
 |tup (xs:List V)
 |dK (kvs:List (Key×V))|dT (kvs:List (List Key×V))
 |set (S:Int->Bool) (n:Nat)
 |ins (C dx:Addr) (fs:List (Str×V))
 |own (x:Addr)
 |xd (fs:List (Str×V))
 |met (f x:Addr)
 |rng (lo hi:Int)
 |frz (o:Obj) (u:HO)
 |tbl (ps:Array Value)
 |ext (φ:Heap->Prop)
abbrev Hp:=Addr->Option HO
def upd (H:Hp)(a:Addr)(o:HO):Hp:=fun b=>if b=a then some o else H b
theorem cn {H:Hp}{a:Addr}{o:HO}:upd H a o a=some o:=by unfold upd;rw [if_pos rfl]
theorem aX {H:Hp}{a b:Addr}{o:HO}(h:b≠a):upd H a o b=H b:=by unfold upd;rw [if_neg h]
theorem bz {H:Hp}{a b:Addr}{o:HO}(h:H a=some o)(h':H b=none):a≠b:=by
 intro e;subst e;rw [h] at h';cases h'
section
variable (P:Program)(w:World)
def dz (H:Hp)(h:Heap)(a:Addr):HO->Prop
 |.lst xs=>xs.length<=sizeLine/\∃(its:List Value) (n:Nat),Vals xs its/\h.get? a=some {cls:=.type "list",data:=.seq its.toArray n}
 |.tup xs=>xs.length<=sizeLine/\∃its:List Value,Vals xs its/\IsTup h a its.toArray
 |.dK kvs=>kvs.length<=sizeLine/\(a==sysModules)=false/\∃vs,KV kvs vs/\h.DictOf (ma P w) a vs
 |.dT kvs=>kvs.length<=sizeLine/\(a==sysModules)=false/\∃xs:List (List Key×Addr×Value),
  Paired (fun (p:List Key×V) (q:List Key×Addr×Value)=>p.1=q.1/\H q.2.1=some (.tup (p.1.map kV))/\RelV p.2 q.2.2) kvs xs/\
  ∃o es ep,h.get? a=some o/\o.ExactDict/\o.data=.dict es ep/\es.toList=xs.map (entryOfKey (tupleKind (ma P w)))/\(xs.map (·.1)).Nodup
 |.set S n=>h.SetOf (intKind P w) a S n
 |.ins C dx fs=>H dx=some (.own a)/\fs.length<=1000/\dx≠a/\h.get? a=some (PySem.W.instObj C dx)/\
  ∃mA,h.Ns1 dx mA/\(∀f,sm (fs.lookup f) (mA f))/\PySem.Within mA (fs.map (·.1))
 |.own _=>∃o,h.get? a=some o
 |.xd fs=>∃mA,h.Ns1 a mA/\∀f,sm (fs.lookup f) (mA f)
 |.rng lo hi=>∃t u v,h.get? a=some {cls:=.type "range",data:=.fields #[.int lo t,.int hi u,.int 1 v]}
 |.frz o u=>h.get? a=some o/\dz H h a u
 |.tbl ps=>h.get? a=some {cls:=.none,data:=.fields ps}
 |.met f x=>h.get? a=some (PySem.W.methodObj (.ref f) (.ref x))
 |.ext φ=>φ h/\(∃o,h.get? a=some o)/\∀h1 h2:Heap,φ h1->(∀o,h1.get? a=some o->h2.get? a=some o)->φ h2
def ft (H:Hp)(h:Heap):Prop:=∀a o,H a=some o->dz P w H h a o
end
section
variable {P:Program}{w:World}{H H':Hp}{h h':Heap}{a:Addr}{o:HO}
theorem dz.lt (x:dz P w H h a o):a<h.objs.size:=by
 cases o with
 |lst xs=>obtain ⟨_,_,_,_,e⟩:=x;exact tqd e
 |tup xs=>obtain ⟨_,_,_,p⟩:=x;exact p.lt
 |dK kvs=>obtain ⟨_,_,_,_,o,_,_,e,_⟩:=x;exact tqd e
 |dT kvs=>obtain ⟨_,_,_,_,o,_,_,e,_⟩:=x;exact tqd e
 |set S n=>obtain ⟨o,_,_,_,e,_⟩:=x;exact tqd e
 |ins C dx fs=>obtain ⟨_,_,_,e,_⟩:=x;exact tqd e
 |own y=>obtain ⟨_,e⟩:=x;exact tqd e
 |xd fs=>obtain ⟨_,⟨_,_,_,e,_⟩,_⟩:=x;exact tqd e
 |rng lo hi=>obtain ⟨_,_,_,e⟩:=x;exact tqd e
 |frz ob u=>obtain ⟨e,_⟩:=x;exact tqd e
 |tbl ps=>exact tqd (show h.get? a=some _ from x)
 |met f y=>exact tqd (show h.get? a=some _ from x)
 |ext φ=>obtain ⟨_,⟨_,e⟩,_⟩:=x;exact tqd e
theorem Paired.mapP {α β:Type}{F G:α->β->Prop}:∀{l₁:List α}{l₂:List β},Paired F l₁ l₂->(∀a b,F a b->G a b)->Paired G l₁ l₂
 |_,_,.nil,_=>.nil
 |_,_,.cons r t,f=>.cons (f _ _ r) (Paired.mapP t f)
theorem dz.stay (x:dz P w H h a o)(k:∀b u,(b=a\/H b=some (.own a))->h.get? b=some u->h'.get? b=some u)
 (ho:∀b,H b=some (.own a)->H' b=some (.own a)) (ht:∀b xs,H b=some (.tup xs)->H' b=some (.tup xs)):dz P w H' h' a o:=by
 induction o with
 |lst xs=>obtain ⟨z,its,n,r,e⟩:=x;exact ⟨z,its,n,r,k _ _ (.inl rfl) e⟩
 |tup xs=>obtain ⟨z,its,r,ob,e,c⟩:=x;exact ⟨z,its,r,ob,k _ _ (.inl rfl) e,c⟩
 |dK kvs=>obtain ⟨z,y,vs,r,ob,es,ep,e,c⟩:=x;exact ⟨z,y,vs,r,ob,es,ep,k _ _ (.inl rfl) e,c⟩
 | dT kvs =>
   obtain ⟨z,y,xs,r,ob,es,ep,e,c⟩:=x
   exact ⟨z,y,xs,Paired.mapP r fun p q z=>⟨z.1,ht _ _ z.2.1,z.2.2⟩,ob,es,ep,k _ _ (.inl rfl) e,c⟩
 |set S n=>obtain ⟨ob,es,ep,t,e,c⟩:=x;exact ⟨ob,es,ep,t,k _ _ (.inl rfl) e,c⟩
 | ins C dx fs =>
   obtain ⟨d,z,ne,e,mA,⟨od,es,ep,e2,c⟩,r⟩:=x
   exact ⟨ho _ d,z,ne,k _ _ (.inl rfl) e,mA,⟨od,es,ep,k _ _ (.inr d) e2,c⟩,r⟩
 |own y=>obtain ⟨ob,e⟩:=x;exact ⟨ob,k _ _ (.inl rfl) e⟩
 |xd fs=>obtain ⟨mA,⟨od,es,ep,e,c⟩,r⟩:=x;exact ⟨mA,⟨od,es,ep,k _ _ (.inl rfl) e,c⟩,r⟩
 |rng lo hi=>obtain ⟨t,u,v,e⟩:=x;exact ⟨t,u,v,k _ _ (.inl rfl) e⟩
 |frz ob u ih=>obtain ⟨e,q⟩:=x;exact ⟨k _ _ (.inl rfl) e,ih q⟩
 | tbl ps =>
   have e:h.get? a=some {cls:=.none,data:=.fields ps}:=x
   show h'.get? a=some {cls:=.none,data:=.fields ps}
   exact k a _ (.inl rfl) e
 | met f y =>
   have e:h.get? a=some (PySem.W.methodObj (.ref f) (.ref y)):=x
   show h'.get? a=some (PySem.W.methodObj (.ref f) (.ref y))
   exact k a _ (.inl rfl) e
 |ext φ=>obtain ⟨p,⟨o,e⟩,st⟩:=x;exact ⟨st _ _ p fun o q=>k _ _ (.inl rfl) q,⟨o,k _ _ (.inl rfl) e⟩,st⟩
theorem ft.lt (x:ft P w H h)(e:H a=some o):a<h.objs.size:=(x a o e).lt
theorem ft.fresh (x:ft P w H h)(e:h.objs.size<=a):H a=none:=by
 cases q:H a with
 |none=>rfl
 |some u=>exact absurd (tqi (x.lt q) e) (tqn _)
theorem ft.kept (x:ft P w H h)(k:∀b u,h.get? b=some u->h'.get? b=some u):ft P w H h':=fun a o e=>
 (x a o e).stay (fun b u _ q=>k b u q) (fun _ q=>q) fun _ _ q=>q
theorem ft.laid (x:ft P w H h)(k:∀b u,h.get? b=some u->h'.get? b=some u)(hp:h.objs.size<=a)(new:dz P w (upd H a o) h' a o):ft P w (upd H a o) h':=fun b u e=>by
 have hn:=x.fresh hp
 by_cases hb:b=a
 ·subst hb;rw [cn] at e;cases e;exact new
 ·rw [aX hb] at e
  exact (x b u e).stay (fun c v _ q=>k c v q) (fun c q=>by rw [aX (bz q hn)];exact q) fun c xs q=>by rw [aX (bz q hn)];exact q
end
def Rd (H:Hp)(a:Addr)(u:HO):Prop:=H a=some u\/∃o,H a=some (.frz o u)
theorem Rd.ok {P:Program}{w:World}{H:Hp}{h:Heap}{a:Addr}{u:HO}(r:Rd H a u)(x:ft P w H h):dz P w H h a u:=by
 rcases r with r|⟨o,r⟩
 ·exact x a u r
 ·obtain ⟨_,q⟩:=x a _ r
  exact q
def Dd:Option HO->Prop
 |some (.lst _)=>True
 |some (.dK _)=>True
 |some (.dT _)=>True
 |some (.set _ _)=>True
 |some (.ins _ _ _)=>True
 |some (.ext _)=>True
 |_=>False
section
variable {P:Program}{w:World}{H:Hp}{h h':Heap}{x e:Addr}{o':HO}
theorem ft.write (ok:ft P w H h)(mu:Dd (H x))(he:e=x\/H e=some (.own x))(k:∀b u,b≠e->h.get? b=some u->h'.get? b=some u)(heo:∃u,h'.get? e=some u)
 (new:dz P w (upd H x o') h' x o'):ft P w (upd H x o') h':=fun b u q=>by
 have nown:∀c y,H c=some (.own y)->c≠x:=fun c y r z=>by subst z;rw [r] at mu;exact mu
 have ntup:∀c xs,H c=some (.tup xs)->c≠x:=fun c xs r z=>by subst z;rw [r] at mu;exact mu
 by_cases hb:b=x
 ·subst hb;rw [cn] at q;cases q;exact new
 ·rw [aX hb] at q
  by_cases hbe:b=e
  ·have q':H b=some (.own x):=by
    rcases he with z|z
    ·exact absurd (hbe.trans z) hb
    ·rw [hbe];exact z
   rw [q] at q';cases q'
   obtain ⟨v,hv⟩:=heo
   exact ⟨v,by rw [hbe];exact hv⟩
  ·refine (ok b u q).stay (fun c v hc r=>k c v ?_ r) (fun c r=>by rw [aX (nown c b r)];exact r) fun c xs r=>by rw [aX (ntup c xs r)];exact r
   rcases hc with rfl|hc
   ·exact hbe
   ·rintro rfl
    rcases he with z|z
    ·exact nown c b hc z
    ·rw [hc] at z;cases z;exact hb rfl
end
structure Un (fs ex:List Addr) (H H':Hp) (h h':Heap):Prop where
 keep:∀b o,h.get? b=some o->H b=none->b∉fs->b∉ex->h'.get? b=some o
 slot:∀b o,h.get? b=some o->H b=none->b∈fs->b∉ex->∃sl,h'.get? b=some {o with slots:=sl}
 free:∀b o,h.get? b=some o->H b=none->b∉ex->H' b=none
 there:∀b o,h.get? b=some o->b∉ex->∃o',h'.get? b=some o'
 tups:∀b xs,H b=some (.tup xs)->H' b=some (.tup xs)
 frzs:∀b o u,H b=some (.frz o u)->H' b=some (.frz o u)
 tbls:∀b ps,H b=some (.tbl ps)->∃more,H' b=some (.tbl (ps++more))
section
variable {fs fs' ex ex':List Addr}{H H1 H2:Hp}{h h1 h2 h':Heap}{a x e:Addr}{o:HO}
theorem Un.any (u:Un fs ex H H1 h h1){b:Addr}{ob:Obj}(q:h.get? b=some ob)(n:H b=none)(hx:b∉ex):∃sl,h1.get? b=some {ob with slots:=sl}:=by
 by_cases hb:b∈fs
 ·exact u.slot b ob q n hb hx
 ·exact ⟨ob.slots,u.keep b ob q n hb hx⟩
theorem Un.kept (k:∀b u,h.get? b=some u->h'.get? b=some u):Un fs ex H H h h':=
 ⟨fun b ob q _ _ _=>k b ob q,fun b ob q _ _ _=>⟨ob.slots,k b ob q⟩,fun _ _ _ n _=>n,fun b ob q _=>⟨ob,k b ob q⟩,fun _ _ q=>q,fun _ _ _ q=>q,fun _ ps q=>⟨#[],by rw [q];simp⟩⟩
theorem Un.refl:Un fs ex H H h h:=Un.kept fun _ _ q=>q
theorem Un.laid (k:∀b u,h.get? b=some u->h'.get? b=some u)(hp:h.objs.size<=a)(hn:H a=none):Un fs ex H (upd H a o) h h' where
 keep:=fun b u q _ _ _=>k b u q
 slot:=fun b u q _ _ _=>⟨u.slots,k b u q⟩
 free:=fun b u q n _=>by rw [aX (tqk (tqi (tqd q) hp))];exact n
 there:=fun b u q _=>⟨u,k b u q⟩
 tups:=fun b xs q=>by rw [aX (bz q hn)];exact q
 frzs:=fun b u xs q=>by rw [aX (bz q hn)];exact q
 tbls:=fun b ps q=>⟨#[],by rw [aX (bz q hn),q];simp⟩
theorem Un.write (mu:Dd (H x))(he:e=x\/H e=some (.own x))(k:∀b u,b≠e->h.get? b=some u->h'.get? b=some u)(heo:∃u,h'.get? e=some u):Un fs ex H (upd H x o) h h':=by
 have hx:∀b,H b=none->b≠x:=fun b n z=>by subst z;rw [n] at mu;exact mu
 have hb:∀b,H b=none->b≠e:=fun b n z=>by
  subst z
  rcases he with r|r
  ·exact hx b n r
  ·rw [n] at r;cases r
 have hm:∀b u,H b=some u->¬ Dd (some u)->b≠x:=fun b u q nm z=>by subst z;rw [q] at mu;exact nm mu
 refine ⟨fun b u q n _ _=>k b u (hb b n) q,fun b u q n _ _=>⟨u.slots,k b u (hb b n) q⟩,fun b u q n _=>by rw [aX (hx b n)];exact n,fun b u q _=>?_,
  fun b xs q=>by rw [aX (hm b _ q fun z=>z)];exact q,fun b u xs q=>by rw [aX (hm b _ q fun z=>z)];exact q,fun b ps q=>⟨#[],by rw [aX (hm b _ q fun z=>z),q];simp⟩⟩
 by_cases hbe:b=e
 ·subst hbe;exact heo
 ·exact ⟨u,k b u hbe q⟩
end
def Cw (h:Heap)(H:Hp):List Addr:=(List.range h.objs.size).filter fun a=>(H a).isSome
def mQ (h:Heap)(H:Hp):Heap:=PySem.W.hideAll h (Cw h H)
theorem zT (h:Heap)(H:Hp):(mQ h H).objs.size=h.objs.size:=PySem.W.hideAll_size _ _
theorem B0 {h:Heap}{H:Hp}{b:Addr}{o:Obj}(e:h.get? b=some o)(n:H b=none):(mQ h H).get? b=some o:=
 PySem.W.hideAll_get _ e fun hm=>by
  have q:(H b).isSome=true:=(List.mem_filter.mp hm).2
  rw [n] at q;simp at q
theorem Ef {h:Heap}{H:Hp}{b:Addr}{o:Obj}(e:(mQ h H).get? b=some o):h.get? b=some o/\H b=none:=by
 have e':h.get? b=some o:=PySem.W.of_hideAll (Cw h H) e
 refine ⟨e',?_⟩
 cases q:H b with
 |none=>rfl
 | some x =>
   have hm:b∈Cw h H:=List.mem_filter.mpr ⟨List.mem_range.mpr (tqd e'),by simp [q]⟩
   have z:(mQ h H).get? b=none:=PySem.W.hideAll_none (Cw h H) hm
   rw [z] at e;cases e
end L2
namespace L2
open PySem PySem.Spec PyProof.Rows
structure Mod (K:PySem.W.Frag) (mg:Str->Option Value) (base:Heap):Prop where
 kin:K.In base
 glob:base.Ns mainGlobals mg
 blt:∃mb,base.Ns builtinsNs mb/\∀x:Str,x≠"__name__"->mb x=bootBuiltins x
 nolimit:base.NoLimit
structure Cx where
 prog:Program
 w:World
 K:PySem.W.Frag
 mg:Str->Option Value
 base:Heap
 A:Around
 N:List Str
 s₀:Shared
 H₀:Hp
 env:Env
 outer:List Env
 stack:List Env
 ex:List Addr
 fn:Str->Bool
 calm:Bool
 pn:List (Addr×Obj)
 xe:Value->Shared->Prop
def gK (l:List Env):List Addr:=l.filterMap (·.frame)
abbrev Cx.fs (X:Cx):List Addr:=gK X.outer
def tD (sc:Scope)(x:Str):Prop:=sc.names.lookup x=some .local\/sc.names.lookup x=some .cell\/sc.names.lookup x=some .free
def Loc (sc:Scope)(x:Str):Prop:=sc.names.lookup x=some .local\/sc.names.lookup x=some .cell
def Look (env:Env)(h:Heap)(m:Str->Option Value)(x:Str)(u:Value):Prop:=
 (env.kindOf x=some .local/\m x=some u)\/((env.kindOf x=some .cell\/env.kindOf x=some .free)/\∃c,env.cells.lookup x=some c/\h.IsCell c (some u))
structure Cx.Ok (X:Cx):Prop where
 mod:Mod X.K X.mg X.base
 kind:X.env.scope.kind=.function
 glob:X.env.globals=mainGlobals
 blt:X.env.builtins=builtinsNs
 above:X.s₀.heap.objs.size<=X.env.locals
 inj:∀x y c,X.env.cells.lookup x=some c->X.env.cells.lookup y=some c->x=y
 has:∀x,(X.env.kindOf x=some .cell\/X.env.kindOf x=some .free)->∃c,X.env.cells.lookup x=some c
 cab:∀x c,X.fn x=true->X.env.cells.lookup x=some c->X.s₀.heap.objs.size<=c
 hd:X.calm=true->X.A.handled=none
 frames:X.A.frames=some X.stack
 stk:X.stack=X.outer\/(X.stack=X.env::X.outer/\X.env.frame=some X.env.locals)
 exf:∀b∈X.ex,b≠X.env.locals/\∀x c,X.env.cells.lookup x=some c->c≠b
 bs:∀b o,X.base.get? b=some o->X.s₀.heap.get? b=some o/\X.H₀ b=none
 bsz:X.base.objs.size<=X.s₀.heap.objs.size
 noex:∀b o,X.base.get? b=some o->b∉X.ex
 exfs:∀b∈X.ex,b∉X.fs
 funs:X.s₀.heap.FunFrames X.base X.outer
 frf:∀b∈X.fs,X.H₀ b=none
structure Inv (X:Cx) (pins:List (Addr×Obj)) (σ:List (Option V)) (H:Hp) (s:Shared):Prop where
 ok:X.Ok
 os:s.os=X.s₀.os
 bare:AllBare s.gens
 base:Un X.fs X.ex X.H₀ H X.s₀.heap s.heap
 loc:∃m,s.heap.Ns X.env.locals m/\∀(i:Nat) (x:Str) (v:V),X.N[i]?=some x->σ[i]?=some (some v)->tD X.env.scope x->∃u,RelV v u/\Look X.env s.heap m x u
 cell:∀x c,X.env.cells.lookup x=some c->∃v,s.heap.IsCell c v
 free:H X.env.locals=none
 freeC:∀x c,X.env.cells.lookup x=some c->H c=none
 pin:∀p∈X.pn++pins,s.heap.get? p.1=some p.2/\H p.1=none/\p.1≠X.env.locals/\p.1∉X.fs/\∀v,p.2.data≠.cell v
 hok:ft X.prog X.w H s.heap
 len:σ.length=X.N.length
section
variable {X:Cx}{pins:List (Addr×Obj)}{σ:List (Option V)}{H H':Hp}{s:Shared}{h':Heap}
theorem Cx.Ok.nofr (ok:X.Ok){b:Addr}{o:Obj}(e:X.base.get? b=some o):b∉X.fs:=fun hb=>by
 have:=(ok.funs.mem hb).1
 rw [e] at this;cases this
theorem Inv.bs (I:Inv X pins σ H s):∀b o,X.base.get? b=some o->s.heap.get? b=some o/\H b=none:=fun b o e=>
 ⟨I.base.keep b o (I.ok.bs b o e).1 (I.ok.bs b o e).2 (I.ok.nofr e) (I.ok.noex b o e),I.base.free b o (I.ok.bs b o e).1 (I.ok.bs b o e).2 (I.ok.noex b o e)⟩
theorem Inv.bk (I:Inv X pins σ H s):∀b o,X.base.get? b=some o->s.heap.get? b=some o:=fun b o e=>(I.bs b o e).1
theorem Inv.mod (I:Inv X pins σ H s):Mod X.K X.mg X.base:=I.ok.mod
theorem Inv.kIn (I:Inv X pins σ H s):X.K.In s.heap:=I.ok.mod.kin.keeps I.bk
theorem Inv.lt (I:Inv X pins σ H s):X.env.locals<s.heap.objs.size:=let ⟨_,hn,_⟩:=I.loc;hn.lt
theorem Inv.sz (I:Inv X pins σ H s):X.s₀.heap.objs.size<=s.heap.objs.size:=tqh I.ok.above (Nat.le_of_lt I.lt)
theorem Inv.nofs (I:Inv X pins σ H s){a:Addr}(h:s.heap.objs.size<=a):a∉X.fs:=fun hb=>by
 obtain ⟨_,o,ho,_⟩:=I.ok.funs.mem hb
 exact absurd (tqi (tqd ho) (tqh I.sz h)) (tqn _)
theorem Inv.cne (I:Inv X pins σ H s):∀x c,X.env.cells.lookup x=some c->c≠X.env.locals:=fun x c e z=>by
 obtain ⟨v,o,ho,hd⟩:=I.cell x c e
 obtain ⟨m,⟨o',es,ep,ho',hd',_⟩,_⟩:=I.loc
 rw [z,ho'] at ho;cases ho;rw [hd'] at hd;cases hd
theorem Inv.funs (I:Inv X pins σ H s):s.heap.FunFrames X.base X.outer:=by
 have all:∀(l:List Env),(∀b∈gK l,b∈X.fs)->X.s₀.heap.FunFrames X.base l->s.heap.FunFrames X.base l:=by
  intro l
  induction l with
  |nil=>intro _ _;trivial
  | cons env r ih =>
    intro hs hl
    obtain ⟨hk,⟨L,o,hf,hn,ho,hd⟩,hr⟩:=hl
    have hL:L∈X.fs:=hs L (by unfold gK;rw [List.filterMap_cons,hf];exact List.mem_cons_self)
    obtain ⟨sl,e⟩:=I.base.slot L o ho (I.ok.frf L hL) hL fun z=>I.ok.exfs L z hL
    exact ⟨hk,⟨L,_,hf,hn,e,hd⟩,ih (fun b hb=>hs b (by unfold gK;rw [List.filterMap_cons,hf];exact List.mem_cons_of_mem _ hb)) hr⟩
 exact all X.outer (fun _ hb=>hb) I.ok.funs
theorem Inv.stack (I:Inv X pins σ H s):s.heap.FunFrames X.base X.stack:=by
 rcases I.ok.stk with e|⟨e,hf⟩
 ·rw [e];exact I.funs
 ·rw [e]
  obtain ⟨m,hn,_⟩:=I.loc
  refine .cons (by rw [I.ok.kind];decide) hf hn ?_ I.funs
  exact Heap.get?_none_of_le (tqh I.ok.bsz I.ok.above)
theorem Inv.stkSub (I:Inv X pins σ H s):∀b∈gK X.stack,b∈X.env.locals::X.fs:=fun b hb=>by
 rcases I.ok.stk with e|⟨e,hf⟩
 ·rw [e] at hb;exact List.mem_cons_of_mem _ hb
 ·rw [e] at hb
  unfold gK at hb
  rw [List.filterMap_cons,hf] at hb
  exact hb
theorem Inv.stkFree (I:Inv X pins σ H s):∀b∈gK X.stack,H b=none:=fun b hb=>by
 rcases List.mem_cons.mp (I.stkSub b hb) with e|hb
 ·rw [e];exact I.free
 ·obtain ⟨_,o,ho,_⟩:=I.ok.funs.mem hb
  exact I.base.free b o ho (I.ok.frf b hb) fun z=>I.ok.exfs b z hb
theorem Inv.step {g':Array GenState}{t':Nat}{d':Drawn}{ch:List Addr}(I:Inv X pins σ H s)
 (hch:∀b∈ch,(b∈X.ex\/X.s₀.heap.objs.size<=b)/\b≠X.env.locals/\(∀x c,X.env.cells.lookup x=some c->c≠b)/\∀p∈X.pn++pins,p.1≠b)
 (keep:∀b o,b≠X.env.locals->b∉X.fs->b∉ch->s.heap.get? b=some o->H b=none->h'.get? b=some o)
 (slot:∀b o,b≠X.env.locals->b∈X.fs->b∉ch->s.heap.get? b=some o->H b=none->∃sl,h'.get? b=some {o with slots:=sl}) (free:∀b o,b∉ch->s.heap.get? b=some o->H b=none->H' b=none)
 (there:∀b o,b∉ch->s.heap.get? b=some o->∃o',h'.get? b=some o')
 (tups:∀b xs,H b=some (.tup xs)->H' b=some (.tup xs)) (frzs:∀b o u,H b=some (.frz o u)->H' b=some (.frz o u)) (tbls:∀b ps,H b=some (.tbl ps)->∃more,H' b=some (.tbl (ps++more)))
 (ns:∀m,s.heap.Ns X.env.locals m->h'.Ns X.env.locals m) (hok:ft X.prog X.w H' h') (hg:AllBare g') :
 Inv X pins σ H' {s with heap:=h',gens:=g',drawn:=d',toks:=t'}:=by
 have neL:∀b o,X.s₀.heap.get? b=some o->b≠X.env.locals:=fun b o e=>tqk (tqi (tqd e) I.ok.above)
 have neC:∀b o,X.s₀.heap.get? b=some o->b∉X.ex->b∉ch:=fun b o e hx hb=>by
  rcases (hch b hb).1 with z|z
  ·exact hx z
  ·exact absurd (tqi (tqd e) z) (tqn _)
 have cellK:∀x c,X.env.cells.lookup x=some c->∀v,s.heap.IsCell c v->h'.IsCell c v:=fun x c e v ⟨o,ho,hd⟩=>by
  have nch:c∉ch:=fun z=>(hch c z).2.2.1 x c e rfl
  by_cases hc:c∈X.fs
  ·obtain ⟨sl,q⟩:=slot c o (I.cne x c e) hc nch ho (I.freeC x c e)
   exact ⟨_,q,hd⟩
  ·exact ⟨o,keep c o (I.cne x c e) hc nch ho (I.freeC x c e),hd⟩
 refine ⟨I.ok,I.os,hg,⟨fun b o e n hb hx=>?_,fun b o e n hb hx=>?_,fun b o e n hx=>?_,fun b o e hx=>?_,fun b xs e=>tups b xs (I.base.tups b xs e),fun b o xs e=>frzs b o xs (I.base.frzs b o xs e),fun b ps e=>?_⟩,?_,fun x c e=>?_,?_,fun x c e=>?_,fun p hp=>?_,hok,I.len⟩
 ·exact keep b o (neL b o e) hb (neC b o e hx) (I.base.keep b o e n hb hx) (I.base.free b o e n hx)
 ·obtain ⟨sl,e1⟩:=I.base.slot b o e n hb hx
  obtain ⟨sl',e2⟩:=slot b _ (neL b o e) hb (neC b o e hx) e1 (I.base.free b o e n hx)
  exact ⟨sl',e2⟩
 ·obtain ⟨o',e1⟩:=I.base.there b o e hx
  exact free b o' (neC b o e hx) e1 (I.base.free b o e n hx)
 ·obtain ⟨o',e1⟩:=I.base.there b o e hx
  exact there b o' (neC b o e hx) e1
 ·obtain ⟨m1,e1⟩:=I.base.tbls b ps e
  obtain ⟨m2,e2⟩:=tbls b _ e1
  exact ⟨m1++m2,by rw [e2,Array.append_assoc]⟩
 ·obtain ⟨m,hn,hl⟩:=I.loc
  refine ⟨m,ns m hn,fun i x v e1 e2 e3=>?_⟩
  obtain ⟨u,r,l⟩:=hl i x v e1 e2 e3
  refine ⟨u,r,?_⟩
  rcases l with l|⟨k,c,e,z⟩
  ·exact .inl l
  ·exact .inr ⟨k,c,e,cellK x c e _ z⟩
 ·obtain ⟨v,z⟩:=I.cell x c e
  exact ⟨v,cellK x c e v z⟩
 ·obtain ⟨m,⟨o,_,_,ho,_⟩,_⟩:=I.loc
  exact free _ o (fun z=>(hch _ z).2.1 rfl) ho I.free
 ·obtain ⟨v,o,ho,hd⟩:=I.cell x c e
  exact free c o (fun z=>(hch c z).2.2.1 x c e rfl) ho (I.freeC x c e)
 ·obtain ⟨e,n,ne,nf,d⟩:=I.pin p hp
  have nch:p.1∉ch:=fun z=>(hch p.1 z).2.2.2 p hp rfl
  exact ⟨keep p.1 p.2 ne nf nch e n,free p.1 p.2 nch e n,ne,nf,d⟩
theorem Inv.un {t':Nat}(I:Inv X pins σ H s)(u:Un X.fs [] H H' s.heap h')(hok:ft X.prog X.w H' h'):Inv X pins σ H' {s with heap:=h',toks:=t'}:=by
 obtain ⟨m,⟨o,es,ep,ho,r⟩,_⟩:=id I.loc
 obtain ⟨sl,hL⟩:=u.any ho I.free (by simp)
 exact I.step (g':=s.gens) (d':=s.drawn) (ch:=[]) (fun _ z=>nomatch z) (fun b o _ hb _ e n=>u.keep b o e n hb (by simp)) (fun b o _ hb _ e n=>u.slot b o e n hb (by simp)) (fun b o _ e n=>u.free b o e n (by simp)) (fun b o _ e=>u.there b o e (by simp)) u.tups u.frzs u.tbls (fun m' hm=>by
  obtain ⟨o',es',ep',ho',r'⟩:=hm
  rw [ho] at ho';cases ho'
  exact ⟨_,es',ep',hL,r'⟩) hok I.bare
theorem Inv.call {g':Array GenState}{t':Nat}{d':Drawn}{ch:List Addr}(I:Inv X pins σ H s)(u:Un (gK X.stack) ch H H' s.heap h')(hok:ft X.prog X.w H' h')(hg:AllBare g')
 (hch:∀b∈ch,(b∈X.ex\/X.s₀.heap.objs.size<=b)/\b≠X.env.locals/\(∀x c,X.env.cells.lookup x=some c->c≠b)/\∀p∈X.pn++pins,p.1≠b) :
 Inv X pins σ H' {s with heap:=h',gens:=g',drawn:=d',toks:=t'}:=by
 obtain ⟨m,⟨o,es,ep,ho,r⟩,_⟩:=id I.loc
 obtain ⟨sl,hL⟩:=u.any ho I.free fun z=>(hch _ z).2.1 rfl
 exact I.step (ch:=ch) hch (fun b o hL hb hc e n=>u.keep b o e n (fun z=>(List.mem_cons.mp (I.stkSub b z)).elim hL hb) hc) (fun b o _ _ hc e n=>u.any e n hc) (fun b o hc e n=>u.free b o e n hc) (fun b o hc e=>u.there b o e hc) u.tups u.frzs u.tbls (fun m' hm=>by
  obtain ⟨o',es',ep',ho',r'⟩:=hm
  rw [ho] at ho';cases ho'
  exact ⟨_,es',ep',hL,r'⟩) hok hg
theorem Inv.turned {t':Nat}{it:Addr}(I:Inv X pins σ H s)(k:∀b o,b≠it->s.heap.get? b=some o->h'.get? b=some o)(hn:H it=none)(hL:it≠X.env.locals)
 (h1:it∈X.ex\/X.s₀.heap.objs.size<=it) (h2:∀x c,X.env.cells.lookup x=some c->c≠it) (h3:∀p∈X.pn++pins,p.1≠it):Inv X pins σ H {s with heap:=h',toks:=t'}:=by
 have nit:∀b u,H b=some u->b≠it:=fun b u e z=>by rw [z,hn] at e;cases e
 refine I.step (g':=s.gens) (d':=s.drawn) (ch:=[it]) (fun b hb=>?_) (fun b o _ _ hc e _=>k b o (fun z=>hc (by simp [z])) e) (fun b o _ _ hc e _=>⟨o.slots,k b o (fun z=>hc (by simp [z])) e⟩) (fun _ _ _ _ n=>n)
  (fun b o hc e=>⟨o,k b o (fun z=>hc (by simp [z])) e⟩) (fun _ _ e=>e) (fun _ _ _ e=>e) (fun b ps e=>⟨#[],by rw [e];simp⟩) (fun m hm=>?_) (fun b u e=>?_) I.bare
 ·have e:b=it:=by simpa using hb
  subst e
  exact ⟨h1,hL,h2,h3⟩
 ·obtain ⟨o,es,ep,ho,r⟩:=hm
  exact ⟨o,es,ep,k _ o (Ne.symm hL) ho,r⟩
 ·refine (I.hok b u e).stay (fun c v hc q=>k c v ?_ q) (fun _ q=>q) fun _ _ q=>q
  rcases hc with z|z
  ·rw [z];exact nit b u e
  ·exact nit c _ z
theorem Inv.tok (I:Inv X pins σ H s)(t:Nat):Inv X pins σ H {s with toks:=t}:=I.un (h':=s.heap) (t':=t) Un.refl I.hok
theorem Inv.kept {t':Nat}(I:Inv X pins σ H s)(k:∀b u,s.heap.get? b=some u->h'.get? b=some u):Inv X pins σ H {s with heap:=h',toks:=t'}:=I.un (Un.kept k) (I.hok.kept k)
theorem Inv.laid {a:Addr}{o:HO}{t':Nat}(I:Inv X pins σ H s)(k:∀b u,s.heap.get? b=some u->h'.get? b=some u)(hp:s.heap.objs.size<=a)(new:dz X.prog X.w (upd H a o) h' a o) :
 Inv X pins σ (upd H a o) {s with heap:=h',toks:=t'}:=I.un (Un.laid k hp (I.hok.fresh hp)) (I.hok.laid k hp new)
theorem Inv.write {x e:Addr}{o:HO}{t':Nat}(I:Inv X pins σ H s)(mu:Dd (H x))(he:e=x\/H e=some (.own x))(k:∀b u,b≠e->s.heap.get? b=some u->h'.get? b=some u)(heo:∃u,h'.get? e=some u)
 (new:dz X.prog X.w (upd H x o) h' x o):Inv X pins σ (upd H x o) {s with heap:=h',toks:=t'}:=I.un (Un.write mu he k heo) (I.hok.write mu he k heo new)
theorem Inv.pins_of {pins':List (Addr×Obj)}(I:Inv X pins σ H s)(h:∀p∈pins',s.heap.get? p.1=some p.2/\H p.1=none/\p.1≠X.env.locals/\p.1∉X.fs/\∀v,p.2.data≠.cell v):Inv X pins' σ H s:=
 ⟨I.ok,I.os,I.bare,I.base,I.loc,I.cell,I.free,I.freeC,fun p hp=>(List.mem_append.mp hp).elim (fun z=>I.pin p (List.mem_append_left _ z)) (h p),I.hok,I.len⟩
theorem pO {N:List Str}(hN:N.Nodup){i j:Nat}{x:Str}(a:N[i]?=some x)(b:N[j]?=some x):i=j:=by
 obtain ⟨h1,e1⟩:=List.getElem?_eq_some_iff.mp a
 obtain ⟨h2,e2⟩:=List.getElem?_eq_some_iff.mp b
 exact (List.getElem_inj hN).mp (e1.trans e2.symm)
theorem sD {M:Model}{A:Around}{E:Value->Shared->Prop}{i:Nat}{x:Str}{v:V}{u:Value}{Q:Unit->Shared->Prop}(I:Inv X pins σ H s)(hN:X.N.Nodup)(hi:X.N[i]?=some x)(hx:Loc X.env.scope x)(r:RelV v u)
 (h:∀s',Inv X pins (σ.set i (some v)) H s'->(∃a,Heap.SameBut a s.heap s'.heap/\(a=X.env.locals\/X.env.cells.lookup x=some a))->Q () s') (hf:X.fn x=true\/X.env.scope.names.lookup x=some .local:=by first|exact .inl rfl|exact .inr rfl|assumption):wpAny M A (storeName X.env x u) Q E s:=by
 obtain ⟨m,hn,hl⟩:=id I.loc
 have hcls:(X.env.scope.kind==.class||(X.env.scope.kind==.module&&X.env.locals != X.env.globals))=false:=by rw [I.ok.kind];rfl
 have hiσ:i<σ.length:=by rw [I.len];exact (List.getElem?_eq_some_iff.mp hi).1
 have cne:=I.cne
 have tracked:∀{a:Addr}{h':Heap},(∃o,s.heap.get? a=some o/\H a=none)->Heap.SameBut a s.heap h'->ft X.prog X.w H h':=fun {a h'} ha hs b ob e=>by
  obtain ⟨_,_,hfree⟩:=ha
  refine (I.hok b ob e).stay (fun c w' hc q=>(hs.2 c ?_).trans q) (fun _ q=>q) fun _ _ q=>q
  rintro rfl
  rcases hc with rfl|hc
  ·rw [hfree] at e;cases e
  ·rw [hfree] at hc;cases hc
 rcases hx with hk|hk
 ·refine wpAny_storeName_local hk hn (fun h' hn' hs=>?_) hcls
  obtain ⟨oL,_,_,hoL,_⟩:=id hn
  refine h _ ⟨I.ok,I.os,I.bare,⟨fun b o e n hb hx=>?_,fun b o e n hb hx=>?_,I.base.free,fun b o e hx=>?_,I.base.tups,I.base.frzs,I.base.tbls⟩,⟨_,hn',fun j y v' e1 e2 e3=>?_⟩,fun y c e=>?_,I.free,I.freeC,fun p hp=>?_,tracked ⟨oL,hoL,I.free⟩ hs,by simpa using I.len⟩ ⟨_,hs,.inl rfl⟩
  ·exact (hs.2 b (tqk (tqi (tqd e) I.ok.above))).trans (I.base.keep b o e n hb hx)
  ·obtain ⟨sl,e1⟩:=I.base.slot b o e n hb hx
   exact ⟨sl,(hs.2 b (tqk (tqi (tqd e) I.ok.above))).trans e1⟩
  ·obtain ⟨o',e1⟩:=I.base.there b o e hx
   exact ⟨o',(hs.2 b (tqk (tqi (tqd e) I.ok.above))).trans e1⟩
  ·by_cases hj:j=i
   ·subst hj
    rw [hi] at e1;cases e1
    rw [List.getElem?_set_self hiσ] at e2
    cases e2
    exact ⟨u,r,.inl ⟨hk,by simp⟩⟩
   ·rw [List.getElem?_set_ne (Ne.symm hj)] at e2
    obtain ⟨u',r',q⟩:=hl j y v' e1 e2 e3
    refine ⟨u',r',?_⟩
    rcases q with ⟨k,e⟩|⟨k,c,e,z⟩
    ·refine .inl ⟨k,?_⟩
     have:y≠x:=fun e=>hj (pO hN e1 (e ▸ hi))
     simp [this,e]
    ·exact .inr ⟨k,c,e,z.sameBut hs (cne y c e)⟩
  ·obtain ⟨w',z⟩:=I.cell y c e
   exact ⟨w',z.sameBut hs (cne y c e)⟩
  ·obtain ⟨e,n,ne,nf,d⟩:=I.pin p hp
   exact ⟨(hs.2 p.1 ne).trans e,n,ne,nf,d⟩
 ·have hfn:X.fn x=true:=by
   rcases hf with z|z
   ·exact z
   ·rw [z] at hk;cases hk
  obtain ⟨c,hc⟩:=I.ok.has x (.inl hk)
  obtain ⟨w',z⟩:=I.cell x c hc
  refine wpAny_storeName_cell I.ok.kind hk hc z (fun h' hc' hs=>?_)
  obtain ⟨oc,hoc,hocd⟩:=id z
  refine h {s with heap:=h'} ⟨I.ok,I.os,I.bare,⟨fun b o e n hb hx=>?_,fun b o e n hb hx=>?_,I.base.free,fun b o e hx=>?_,I.base.tups,I.base.frzs,I.base.tbls⟩,⟨m,hn.sameBut hs (Ne.symm (cne x c hc)),fun j y v' e1 e2 e3=>?_⟩,fun y c' e=>?_,I.free,I.freeC,fun p hp=>?_,tracked ⟨oc,hoc,I.freeC x c hc⟩ hs,by simpa using I.len⟩ ⟨c,hs,.inr hc⟩
  ·exact (hs.2 b (tqk (tqi (tqd e) (I.ok.cab x c hfn hc)))).trans (I.base.keep b o e n hb hx)
  ·obtain ⟨sl,e1⟩:=I.base.slot b o e n hb hx
   exact ⟨sl,(hs.2 b (tqk (tqi (tqd e) (I.ok.cab x c hfn hc)))).trans e1⟩
  ·obtain ⟨o',e1⟩:=I.base.there b o e hx
   exact ⟨o',(hs.2 b (tqk (tqi (tqd e) (I.ok.cab x c hfn hc)))).trans e1⟩
  ·by_cases hj:j=i
   ·subst hj
    rw [hi] at e1;cases e1
    rw [List.getElem?_set_self hiσ] at e2
    cases e2
    exact ⟨u,r,.inr ⟨.inl hk,c,hc,hc'⟩⟩
   ·rw [List.getElem?_set_ne (Ne.symm hj)] at e2
    obtain ⟨u',r',q⟩:=hl j y v' e1 e2 e3
    refine ⟨u',r',?_⟩
    rcases q with q|⟨k,c',e,z'⟩
    ·exact .inl q
    ·refine .inr ⟨k,c',e,z'.sameBut hs ?_⟩
     rintro rfl
     exact hj (pO hN e1 (I.ok.inj _ _ _ e hc ▸ hi))
  ·by_cases hcc:c'=c
   ·subst hcc;exact ⟨_,hc'⟩
   ·obtain ⟨w2,z2⟩:=I.cell y c' e
    exact ⟨w2,z2.sameBut hs hcc⟩
  ·obtain ⟨e,n,ne,nf,d⟩:=I.pin p hp
   refine ⟨(hs.2 p.1 ?_).trans e,n,ne,nf,d⟩
   intro q
   rw [q,hoc] at e
   have q':oc=p.2:=Option.some.inj e
   exact d w' (by rw [<- q'];exact hocd)
theorem uz {M:Model}{A:Around}{E:Value->Shared->Prop}{i:Nat}{x:Str}{v:V}{u:Value}{Q:Unit->Shared->Prop}(I:Inv X pins σ H s)(hN:X.N.Nodup)(hi:X.N[i]?=some x)(hx:Loc X.env.scope x)(r:RelV v u)
 (h:∀s',Inv X pins (σ.set i (some v)) H s'->Q () s') (hf:X.fn x=true\/X.env.scope.names.lookup x=some .local:=by first|exact .inl rfl|exact .inr rfl|assumption):wpAny M A (storeName X.env x u) Q E s:=
 sD I hN hi hx r (fun s' I' _=>h s' I') hf
theorem Inv.call' {s':Shared}{ch:List Addr}(I:Inv X pins σ H s)(ho:s'.os=s.os)(u:Un (gK X.stack) ch H H' s.heap s'.heap)(hok:ft X.prog X.w H' s'.heap)(hg:AllBare s'.gens)
 (hch:∀b∈ch,(b∈X.ex\/X.s₀.heap.objs.size<=b)/\b≠X.env.locals/\(∀x c,X.env.cells.lookup x=some c->c≠b)/\∀p∈X.pn++pins,p.1≠b):Inv X pins σ H' s':=by
 obtain ⟨h',g',d',t',o'⟩:=s'
 have e:o'=s.os:=ho
 subst e
 exact I.call (g':=g') (t':=t') (d':=d') u hok hg hch
end
abbrev XK:=Value->Option Addr->Hp->Prop
abbrev St:=List (Option V)
abbrev VK:=V->Hp->Prop
abbrev TE:=St->Hp->VK->Prop
abbrev TT:=St->Hp->(Bool->Hp->Prop)->Prop
abbrev TA:=St->Hp->(List V->Hp->Prop)->Prop
structure Ends where
 nx:St->Hp->Prop
 rt:VK
 bk:St->Hp->Prop:=fun _ _=>False
 ct:St->Hp->Prop:=fun _ _=>False
abbrev TS:=Ends->St->Hp->Prop
def EP (X:Cx)(pins:List (Addr×Obj))(σ:St)(Q:VK)(u:Value)(s':Shared):Prop:=∃v H',Inv X pins σ H' s'/\RelV v u/\Q v H'
def TP (X:Cx)(pins:List (Addr×Obj))(σ:St)(Q:Bool->Hp->Prop)(b:Bool)(s':Shared):Prop:=∃H',Inv X pins σ H' s'/\Q b H'
def AP (X:Cx)(pins:List (Addr×Obj))(σ:St)(Q:List V->Hp->Prop)(us:List Value)(s':Shared):Prop:=∃vs H',Inv X pins σ H' s'/\Vals vs us/\Q vs H'
def SP (X:Cx)(pins:List (Addr×Obj))(D:Ends)(f:Flow)(s':Shared):Prop:=
 match f with
 |.next=>∃σ' H',Inv X pins σ' H' s'/\D.nx σ' H'
 |.brk=>∃σ' H',Inv X pins σ' H' s'/\D.bk σ' H'
 |.cont=>∃σ' H',Inv X pins σ' H' s'/\D.ct σ' H'
 |.ret u=>∃v σ' H',Inv X pins σ' H' s'/\RelV v u/\D.rt v H'
def PE (X:Cx)(e:Expr)(t:TE):Prop:=
 ∀(pins:List (Addr×Obj)) (s:Shared) (σ:St) (H:Hp) (Q:VK),Inv X pins σ H s->t σ H Q->wpAny (model X.prog X.w) X.A (eval e X.env) (EP X pins σ Q) X.xe s
def PT (X:Cx)(e:Expr)(t:TT):Prop:=
 ∀(pins:List (Addr×Obj)) (s:Shared) (σ:St) (H:Hp) (Q:Bool->Hp->Prop),Inv X pins σ H s->t σ H Q->wpAny (model X.prog X.w) X.A (isTrue e X.env (eval e X.env)) (TP X pins σ Q) X.xe s
def PW (X:Cx)(e:Expr)(t:TT):Prop:=
 ∀(whole:Sem Value) (pins:List (Addr×Obj)) (s:Shared) (σ:St) (H:Hp) (Q:Bool->Hp->Prop),Inv X pins σ H s->t σ H Q->wpAny (model X.prog X.w) X.A (isTrue e X.env whole) (TP X pins σ Q) X.xe s
theorem PW.pt {X:Cx}{e:Expr}{t:TT}(h:PW X e t):PT X e t:=h _
def PA (X:Cx)(es:List Expr)(t:TA):Prop:=
 ∀(pos:Pos) (pins:List (Addr×Obj)) (s:Shared) (σ:St) (H:Hp) (Q:List V->Hp->Prop),Inv X pins σ H s->t σ H Q->wpAny (model X.prog X.w) X.A (spliced (backTo pos (starEach es X.env))) (AP X pins σ Q) X.xe s
def PS (X:Cx)(st:Stmt)(t:TS):Prop:=
 ∀(pins:List (Addr×Obj)) (s:Shared) (σ:St) (H:Hp) (D:Ends),Inv X pins σ H s->t D σ H->wpAny (model X.prog X.w) X.A (exec st X.env) (SP X pins D) X.xe s
def n8 (X:Cx)(st:List Stmt)(t:TS):Prop:=
 ∀(pins:List (Addr×Obj)) (s:Shared) (σ:St) (H:Hp) (D:Ends),Inv X pins σ H s->t D σ H->wpAny (model X.prog X.w) X.A (execs st X.env) (SP X pins D) X.xe s
theorem bx {α:Type}{t:Sem α}{Q Q':α->Shared->Prop}{M:Model}{A:Around}{E:Value->Shared->Prop}{s:Shared}(h:wpAny M A t Q E s)(hQ:∀a s,Q a s->Q' a s):wpAny M A t Q' E s:=wpAny_mono h hQ fun _ _ x=>x
end L2
namespace L2
open PySem PySem.Spec PyProof.Rows
section
variable {X:Cx}
theorem bin {a b:Expr}{ta tb:TE}(ha:PE X a ta)(hb:PE X b tb){pins:List (Addr×Obj)}{s:Shared}{σ:St}{H:Hp}{R:V->V->Hp->Prop}(I:Inv X pins σ H s)(h:ta σ H fun x H1=>tb σ H1 fun y H2=>R x y H2)
 {α:Type}{Q:α->Shared->Prop}{f:Value->Value->Sem α}
 (hf:∀v u s2 x y H2,Inv X pins σ H2 s2->RelV x v->RelV y u->R x y H2->wpAny (model X.prog X.w) X.A (f v u) Q X.xe s2) :
 wpAny (model X.prog X.w) X.A (eval a X.env) (fun v s₁=>wpAny (model X.prog X.w) X.A (eval b X.env) (fun u s₂=>wpAny (model X.prog X.w) X.A (f v u) Q X.xe s₂) X.xe s₁) X.xe s:=by
 refine bx (ha pins s σ H _ I h) fun v s1 ⟨x,H1,I1,r1,q1⟩=>?_
 refine bx (hb pins s1 σ H1 _ I1 q1) fun u s2 ⟨y,H2,I2,r2,q2⟩=>?_
 exact hf v u s2 x y H2 I2 r1 r2 q2
def AO (i:Nat):TE:=fun σ H Q=>∃v,σ[i]?=some (some v)/\Q v H
def tC (v:V):TE:=fun _ H Q=>Q v H
theorem qs {i:Nat}{x:Str}{pos:Pos}(hN:X.N[i]?=some x)(hv:tD X.env.scope x)(hd:(x==("__debug__":Str))=false:=by decide)(hcd:(x==("__classdict__":Str))=false:=by decide):PE X (.Name x pos) (AO i):=by
 intro pins s σ H Q I h
 obtain ⟨v,e,h⟩:=h
 obtain ⟨m,hn,hl⟩:=I.loc
 obtain ⟨u,r,l⟩:=hl i x v hN e hv
 have fin:EP X pins σ Q u s:=⟨v,H,I,r,h⟩
 rcases l with ⟨hk,hm⟩|⟨hk,c,hc,hcell⟩
 ·exact wpAny_Name (wpAny_loadName_local I.ok.kind hk hn hm fin) hd
 ·rcases hk with hk|hk
  ·exact wpAny_Name (wpAny_loadName_cell I.ok.kind hk hc hcell fin) hd
  ·exact wpAny_Name (wpAny_loadName_free I.ok.kind hk hc hcell fin hcd) hd
theorem zk {i j pos}:PE X (.Constant (.int i) j pos) (tC (.int i)):=fun _ _ _ H _ I h=>wpAny_Constant_int ⟨.int i,H,I.tok _,⟨_,rfl⟩,h⟩
theorem xi {b j pos}:PE X (.Constant (.bool b) j pos) (tC (.bl b)):=fun _ _ _ H _ I h=>Constant_bool ⟨.bl b,H,I,rfl,h⟩
theorem Gn {j pos}:PE X (.Constant .none j pos) (tC .non):=fun _ _ _ H _ I h=>Constant_none ⟨.non,H,I,rfl,h⟩
theorem Gi {x j pos}:PE X (.Constant (.str x) j pos) (tC (.str x)):=fun _ _ _ H _ I h=>Calls.Constant_str ⟨.str x,H,I.tok _,⟨_,rfl⟩,h⟩
def Gl (X:Cx)(x:Str):Prop:=X.env.kindOf x=some .globalImplicit
theorem jx {E:Value->Shared->Prop}{pins:List (Addr×Obj)}{s:Shared}{σ:St}{H:Hp}{x:Str}{u:Value}{pos:Pos}{Q:Value->Shared->Prop}(I:Inv X pins σ H s)(hg:Gl X x)(hm:X.mg x=some u)(h:Q u s)
 (hd:(x==("__debug__":Str))=false:=by decide):wpAny (model X.prog X.w) X.A (eval (.Name x pos) X.env) Q E s:=
 Calls.Name_function_global I.ok.kind hg (Calls.loadGlobal_global (by rw [I.ok.glob];exact I.mod.glob.keeps I.bk) hm h) hd
theorem jU {E:Value->Shared->Prop}{pins:List (Addr×Obj)}{s:Shared}{σ:St}{H:Hp}{x:Str}{u:Value}{pos:Pos}{Q:Value->Shared->Prop}(I:Inv X pins σ H s)(hg:Gl X x)(hm:X.mg x=none)(hv:bootBuiltins x=some u)(h:Q u s)
 (hn:x≠"__name__":=by decide) (hd:(x==("__debug__":Str))=false:=by decide):wpAny (model X.prog X.w) X.A (eval (.Name x pos) X.env) Q E s:=by
 obtain ⟨mb,h1,h2⟩:=I.mod.blt
 exact Calls.Name_function_global I.ok.kind hg (Calls.loadGlobal_builtin (by rw [I.ok.glob];exact I.mod.glob.keeps I.bk) hm (by rw [I.ok.blt];exact h1.keeps I.bk) ((h2 x hn).trans hv) h) hd
theorem l7 {x:Str}{v:V}{u:Value}{pos:Pos}(hg:Gl X x)(hm:X.mg x=some u)(r:RelV v u)(hd:(x==("__debug__":Str))=false:=by decide):PE X (.Name x pos) (tC v):=
 fun _ _ _ H _ I h=>jx I hg hm ⟨v,H,I,r,h⟩ hd
theorem wj {x:Str}{v:V}{u:Value}{pos:Pos}(hg:Gl X x)(hm:X.mg x=none)(hv:bootBuiltins x=some u)(r:RelV v u)(hn:x≠"__name__":=by decide)(hd:(x==("__debug__":Str))=false:=by decide):PE X (.Name x pos) (tC v):=
 fun _ _ _ H _ I h=>jU I hg hm hv ⟨v,H,I,r,h⟩ hn hd
variable {a b:Expr}{ta tb:TE}{pos:Pos}
variable {tA tB':TT}{rest:List Expr}
def ia (t u:TT):TT:=fun σ H Q=>t σ H fun c H1=>if c=true then u σ H1 Q else Q false H1
def eJ (t u:TT):TT:=fun σ H Q=>t σ H fun c H1=>if c=true then Q true H1 else u σ H1 Q
def bT (t:TT):TT:=fun σ H Q=>t σ H fun c H1=>Q (!c) H1
theorem DY (ha:PT X a tA):PW X (.BoolOp .And [a] pos) tA:=by
 intro wh pins s σ H Q I h
 refine isTrue_and (bx (ha pins s σ H Q I h) fun c s1 e=>?_)
 cases c with
 |true=>exact isTrue_and_nil e
 |false=>exact e
theorem FX (ha:PT X a tA):PW X (.BoolOp .Or [a] pos) tA:=by
 intro wh pins s σ H Q I h
 refine isTrue_or (bx (ha pins s σ H Q I h) fun c s1 e=>?_)
 cases c with
 |false=>exact isTrue_or_nil e
 |true=>exact e
theorem FY (ha:PT X a tA)(hb:PW X (.BoolOp .And (b::rest) pos) tB'):PW X (.BoolOp .And (a::b::rest) pos) (ia tA tB'):=by
 intro wh pins s σ H Q I h
 refine isTrue_and (bx (ha pins s σ H _ I h) fun c s1 ⟨H1,I1,q1⟩=>?_)
 cases c with
 |true=>exact hb wh pins s1 σ H1 Q I1 q1
 |false=>exact ⟨H1,I1,q1⟩
theorem Jh (ha:PT X a tA)(hb:PW X (.BoolOp .Or (b::rest) pos) tB'):PW X (.BoolOp .Or (a::b::rest) pos) (eJ tA tB'):=by
 intro wh pins s σ H Q I h
 refine isTrue_or (bx (ha pins s σ H _ I h) fun c s1 ⟨H1,I1,q1⟩=>?_)
 cases c with
 |true=>exact ⟨H1,I1,q1⟩
 |false=>exact hb wh pins s1 σ H1 Q I1 q1
theorem FZ (ha:PT X a tA):PT X (.UnaryOp .Not a pos) (bT tA):=by
 intro pins s σ H Q I h
 exact isTrue_not (ha pins s σ H (fun c H1=>Q (!c) H1) I h)
def IZ (ta tb:TE):TE:=fun σ H Q=>ta σ H fun x H1=>∃c,x=.bl c/\if c=true then tb σ H1 Q else Q (.bl false) H1
def IW (ta:TE):TE:=fun σ H Q=>ta σ H fun x H1=>∃c,x=.bl c/\Q (.bl (!c)) H1
theorem Gk {op}{t:TE}(h:PE X a t):PE X (.BoolOp op [a] pos) t:=fun pins s σ H Q I hw=>BoolOp_one (h pins s σ H Q I hw)
theorem Gr (ha:PE X a ta)(hb:PE X (.BoolOp .And (b::rest) pos) tb):PE X (.BoolOp .And (a::b::rest) pos) (IZ ta tb):=by
 intro pins s σ H Q I h
 refine BoolOp_and (bx (ha pins s σ H _ I h) fun v s1 ⟨x,H1,I1,r1,q1⟩=>?_)
 obtain ⟨c,rfl,q1⟩:=q1
 cases r1
 refine tqp ?_
 cases c with
 |true=>exact hb pins s1 σ H1 Q I1 q1
 |false=>exact ⟨.bl false,H1,I1,rfl,q1⟩
theorem Gm (ha:PE X a ta):PE X (.UnaryOp .Not a pos) (IW ta):=by
 intro pins s σ H Q I h
 refine UnaryOp_ (bx (ha pins s σ H _ I h) fun v s1 ⟨x,H1,I1,r1,q1⟩=>?_)
 obtain ⟨c,rfl,q1⟩:=q1
 cases r1
 exact not_of (tqp ⟨.bl (!c),H1,I1,rfl,q1⟩)
def tIf (t:TT)(ta tb:TE):TE:=fun σ H Q=>t σ H fun c H1=>if c=true then ta σ H1 Q else tb σ H1 Q
theorem Bk {c:Expr}(hc:PT X c tA)(ha:PE X a ta)(hb:PE X b tb):PE X (.IfExp c a b pos) (tIf tA ta tb):=by
 intro pins s σ H Q I h
 refine wpAny_IfExp (bx (hc pins s σ H _ I h) fun d s1 ⟨H1,I1,q1⟩=>?_)
 cases d with
 |true=>exact ha pins s1 σ H1 Q I1 q1
 |false=>exact hb pins s1 σ H1 Q I1 q1
end
end L2
namespace L2
open PySem PySem.Spec PyProof.Rows
def dq (K:PySem.W.Frag)(H:Hp)(a:Addr)(xs:List V):Prop:=
 Rd H a (.lst xs)\/
  ∃(o:Obj) (its:Array Value) (n:Nat),K.lookup a=some o/\o.cls=.type "list"/\o.dict=none/\o.data=.seq its n/\its.size<=sizeLine/\Vals xs its.toList
def eD (K:PySem.W.Frag)(H:Hp)(a:Addr)(xs:List V):Prop:=
 Rd H a (.tup xs)\/
  ∃(o:Obj) (its:Array Value) (n:Nat),K.lookup a=some o/\o.cls=.type "tuple"/\o.data=.seq its n/\its.size<=sizeLine/\Vals xs its.toList
def Mn:Value->Option V
 |.none=>some .non
 |.bool b=>some (.bl b)
 |.int i _=>some (.int i)
 |.str x _=>some (.str x)
 |.bytes b _=>some (.byt b)
 |.float b _=>some (.flt b)
 |.ref a=>some (.ref a)
 |.type n=>some (.ty n)
 |_=>none
theorem RelV.abs {x:V}{u:Value}(r:RelV x u):Mn u=some x:=by
 cases x with
 |non=>cases r;rfl
 |bl _=>cases r;rfl
 |int _=>obtain ⟨t,rfl⟩:=r;rfl
 |str _=>obtain ⟨t,rfl⟩:=r;rfl
 |byt _=>obtain ⟨t,rfl⟩:=r;rfl
 |flt _=>obtain ⟨t,rfl⟩:=r;rfl
 |ref _=>cases r;rfl
 |ty _=>cases r;rfl
theorem RelV.inj {x y:V}{u:Value}(r:RelV x u)(q:RelV y u):x=y:=Option.some.inj (r.abs.symm.trans q.abs)
theorem Vals.inj:∀{xs ys:List V}{us:List Value},Vals xs us->Vals ys us->xs=ys
 |_,_,_,.nil,.nil=>rfl
 |_,_,_,.cons r t,.cons r' t'=>by rw [r.inj r',Vals.inj t t']
section
variable {X:Cx}{pins:List (Addr×Obj)}{σ:St}{H:Hp}{s:Shared}{a:Addr}{xs ys:List V}
theorem dq.of {K:PySem.W.Frag}(h:H a=some (.lst xs)):dq K H a xs:=.inl (.inl h)
theorem eD.of {K:PySem.W.Frag}(h:H a=some (.tup xs)):eD K H a xs:=.inl (.inl h)
theorem Inv.list (I:Inv X pins σ H s)(h:dq X.K H a xs):∃its:List Value,Vals xs its/\PlainL s.heap a its.toArray/\xs.length<=sizeLine:=by
 rcases h with h|⟨o,its,n,hk,hc,hd,hs,hz,r⟩
 ·obtain ⟨z,its,n,r,e⟩:=h.ok I.hok
  exact ⟨its,r,⟨_,n,e,rfl,rfl,rfl⟩,z⟩
 ·refine ⟨its.toList,r,⟨o,n,I.kIn a o hk,hc,hd,by simpa using hs⟩,?_⟩
  have e:=r.length
  simp only [Array.length_toList] at e
  omega
theorem Inv.tuple (I:Inv X pins σ H s)(h:eD X.K H a xs):∃its:List Value,Vals xs its/\IsTup s.heap a its.toArray/\xs.length<=sizeLine:=by
 rcases h with h|⟨o,its,n,hk,hc,hs,hz,r⟩
 ·obtain ⟨z,its,r,p⟩:=h.ok I.hok
  exact ⟨its,r,p,z⟩
 ·refine ⟨its.toList,r,⟨o,I.kIn a o hk,hc,n,by simpa using hs⟩,?_⟩
  have e:=r.length
  simp only [Array.length_toList] at e
  omega
theorem Inv.list_inj (I:Inv X pins σ H s)(h:dq X.K H a xs)(h':dq X.K H a ys):xs=ys:=by
 obtain ⟨its,r,⟨o,n,e,_,_,d⟩,_⟩:=I.list h
 obtain ⟨its',r',⟨o',n',e',_,_,d'⟩,_⟩:=I.list h'
 rw [e] at e';cases e'
 rw [d] at d'
 injection d' with d1 _
 have:its=its':=by simpa using congrArg Array.toList d1
 subst this
 exact r.inj r'
theorem Inv.tuple_inj (I:Inv X pins σ H s)(h:eD X.K H a xs)(h':eD X.K H a ys):xs=ys:=by
 obtain ⟨its,r,⟨o,e,_,n,d⟩,_⟩:=I.tuple h
 obtain ⟨its',r',⟨o',e',_,n',d'⟩,_⟩:=I.tuple h'
 rw [e] at e';cases e'
 rw [d] at d'
 injection d' with d1 _
 have:its=its':=by simpa using congrArg Array.toList d1
 subst this
 exact r.inj r'
end
section
variable {X:Cx}{st:Stmt}{rest:List Stmt}{t u:TS}{e:Expr}{te:TE}{pos:Pos}
def CA:TS:=fun D σ H=>D.nx σ H
def KP (t u:TS):TS:=fun D σ H=>t {D with nx:=u D} σ H
theorem wc:n8 X [] CA:=fun _ _ σ H _ I h=>wpAny_execs_nil ⟨σ,H,I,h⟩
theorem pJ (h1:PS X st t)(h2:n8 X rest u):n8 X (st::rest) (KP t u):=by
 intro pins s σ H D I h
 refine wpAny_execs_cons (bx (h1 pins s σ H {D with nx:=u D} I h) fun f s1 q=>?_)
 cases f with
 | next =>
   obtain ⟨σ',H',I',q⟩:=q
   exact h2 pins s1 σ' H' D I' q
 |ret v=>exact q
 |brk=>exact q
 |cont=>exact q
theorem D1:PS X (.Pass pos) CA:=fun _ _ σ H _ I h=>wpAny_Pass ⟨σ,H,I,h⟩
theorem Inv.quiet {pins:List (Addr×Obj)}{σ:St}{H:Hp}{s:Shared}(I:Inv X pins σ H s):interactive X.env=false:=by simp [interactive,I.ok.kind]
def IX (te:TE):TS:=fun D σ H=>te σ H fun _ H1=>D.nx σ H1
theorem rj (he:PE X e te)(hs:swapsWith e none pos.line X.env=pure false:=by rfl):PS X (.Expr e pos) (IX te):=by
 intro pins s σ H D I h
 exact wpAny_Expr_any (bx (he pins s σ H _ I h) fun v s1 ⟨x,H1,I1,r1,q1⟩=>⟨σ,H1,I1,q1⟩) I.quiet hs
def KQ (te:TE):TS:=fun D σ H=>te σ H D.rt
theorem Ga (he:PE X e te):PS X (.Return (some e) pos) (KQ te):=by
 intro pins s σ H D I h
 exact wpAny_Return_some (bx (he pins s σ H _ I h) fun v s1 ⟨x,H1,I1,r1,q1⟩=>⟨x,σ,H1,I1,r1,q1⟩)
def KW (c:TT)(t u:TS):TS:=fun D σ H=>c σ H fun b H1=>if b=true then t D σ H1 else u D σ H1
theorem Ji {c:Expr}{a b:List Stmt}{tc:TT}(hc:PT X c tc)(ha:n8 X a t)(hb:n8 X b u):PS X (.If c a b pos) (KW tc t u):=by
 intro pins s σ H D I h
 refine wpAny_If (bx (hc pins s σ H _ I h) fun d s1 ⟨H1,I1,q1⟩=>?_)
 cases d with
 |true=>exact ha pins s1 σ H1 D I1 q1
 |false=>exact hb pins s1 σ H1 D I1 q1
end
abbrev TG:=V->St->Hp->(St->Hp->Prop)->Prop
abbrev qV:=List V->St->Hp->(St->Hp->Prop)->Prop
def PG (X:Cx)(target:Expr)(t:TG):Prop:=
 ∀(pins:List (Addr×Obj)) (s:Shared) (σ:St) (H:Hp) (v:V) (u:Value) (Q:St->Hp->Prop),Inv X pins σ H s->RelV v u->t v σ H Q->
  wpAny (model X.prog X.w) X.A (assign target X.env u) (fun _ s'=>∃σ' H',Inv X pins σ' H' s'/\Q σ' H') X.xe s
def vG (X:Cx)(ts:List Expr)(t:qV):Prop:=
 ∀(pins:List (Addr×Obj)) (s:Shared) (σ:St) (H:Hp) (vs:List V) (us:List Value) (Q:St->Hp->Prop),Inv X pins σ H s->Vals vs us->t vs σ H Q->
  wpAny (model X.prog X.w) X.A (assignInOrder ((assignEach ts X.env).map (·.2)) us) (fun _ s'=>∃σ' H',Inv X pins σ' H' s'/\Q σ' H') X.xe s
abbrev Co:=V->V->V->Hp->(Hp->Prop)->Prop
def IF (X:Cx)(t:Co):Prop:=
 ∀(pins:List (Addr×Obj)) (s:Shared) (σ:St) (H:Hp) (o i v:V) (ov iv u:Value) (Q:Hp->Prop),Inv X pins σ H s->RelV o ov->RelV i iv->RelV v u->t o i v H Q->
  wpAny (model X.prog X.w) X.A (setItem ov iv u) (fun _ s'=>∃H',Inv X pins σ H' s'/\Q H') X.xe s
section
variable {X:Cx}{pos:Pos}
def JD (i:Nat):TG:=fun v σ H Q=>Q (σ.set i (some v)) H
theorem wg {i:Nat}{x:Str}(hN:X.N.Nodup)(hi:X.N[i]?=some x)(hx:Loc X.env.scope x)(hf:X.fn x=true\/X.env.scope.names.lookup x=some .local:=by first|exact .inl rfl|exact .inr rfl|assumption):PG X (.Name x pos) (JD i):=by
 intro pins s σ H v u Q I r h
 exact wpAny_assign_Name (uz I hN hi hx r (fun s' I'=>⟨_,H,I',h⟩) hf)
def aj:qV:=fun vs σ H Q=>vs=[]/\Q σ H
def aa (t:TG)(u:qV):qV:=fun vs σ H Q=>∃v r,vs=v::r/\t v σ H fun σ' H'=>u r σ' H' Q
theorem D7:vG X [] aj:=by
 intro pins s σ H vs us Q I r h
 obtain ⟨e,h⟩:=h
 subst e
 cases r
 exact assignInOrder_nil ⟨σ,H,I,h⟩
theorem Bj {e:Expr}{es:List Expr}{t:TG}{u:qV}(h1:PG X e t)(h2:vG X es u)
 (hs:(assignEach (e::es) X.env).map (·.2)=assign e X.env::(assignEach es X.env).map (·.2):=by rfl):vG X (e::es) (aa t u):=by
 intro pins s σ H vs us Q I r h
 obtain ⟨v,vr,e1,h⟩:=h
 subst e1
 cases r with
 | cons r rr =>
   rw [hs]
   refine assignInOrder_cons (bx (h1 pins s σ H _ _ _ I r h) fun _ s1 ⟨σ1,H1,I1,q1⟩=>?_)
   exact h2 pins s1 σ1 H1 _ _ Q I1 rr q1
def bh (K:PySem.W.Frag)(n:Nat)(t:qV):TG:=fun v σ H Q=>∃a xs,v=.ref a/\eD K H a xs/\xs.length=n/\t xs σ H Q
theorem Gf {es:List Expr}{k:Nat}{t:qV}{n:Nat}(hc:X.calm=true)(h:vG X es t)
 (hn:(assignEach es X.env).length=n:=by rfl) (hst:(assignEach es X.env).findIdx? (·.1)=none:=by rfl):PG X (.Tuple es k pos) (bh X.K n t):=by
 intro pins s σ H v u Q I r hw
 obtain ⟨a,xs,e1,hq,hl,hw⟩:=hw
 subst e1
 cases r
 obtain ⟨its,rv,ht,hz⟩:=I.tuple hq
 refine assign_Tuple_tuple (I.ok.hd hc) ht (by simp [hn,<- hl,rv.length]) hst fun h' hx=>?_
 have I1:Inv X pins σ H {s with heap:=h'}:=I.kept (t':=s.toks) fun b o e=>hx b o (tqk (tqd e)) e
 exact h pins _ σ H xs _ Q I1 (by simpa using rv) hw
def L9 (to ti:TE)(t:Co):TG:=fun v σ H Q=>to σ H fun o H1=>ti σ H1 fun i H2=>t o i v H2 fun H3=>Q σ H3
theorem Gg {o i:Expr}{to ti:TE}{t:Co}(ho:PE X o to)(hi:PE X i ti)(hs:IF X t)
 (ha:∀v,assign (.Subscript o i pos) X.env v=(do
  let ov <- holding [v] (eval o X.env)
  let iv <- holding [v,ov] (eval i X.env)
  standAt pos
  holding [v,ov,iv] (setItem ov iv v)
  release [v,ov,iv] []):=by intro _;rfl):PG X (.Subscript o i pos) (L9 to ti t):=by
 intro pins s σ H v u Q I r h
 rw [ha]
 refine tqa (tqo (bx (ho pins s σ H _ I h) fun ov s1 ⟨x,H1,I1,r1,q1⟩=>?_))
 refine tqa (tqo (bx (hi pins s1 σ H1 _ I1 q1) fun iv s2 ⟨y,H2,I2,r2,q2⟩=>?_))
 refine tqa (wpAny_standAt (tqa (tqo (bx (hs pins s2 σ H2 x y v ov iv u _ I2 r1 r2 r q2) fun _ s3 ⟨H3,I3,q3⟩=>?_))))
 exact wpAny_release ⟨σ,H3,I3,q3⟩
def KZ (te:TE)(g:TG):TS:=fun D σ H=>te σ H fun x H1=>g x σ H1 D.nx
theorem zg {tg e:Expr}{te:TE}{g:TG}(he:PE X e te)(hg:PG X tg g)(hs:swapsWithSole [tg] e pos.line X.env=pure false:=by rfl)(hw:swappedStores [tg] e X.env=pure none:=by rfl)
 (h1:(assignEach [tg] X.env).map (·.2)=[assign tg X.env]:=by rfl):PS X (.Assign [tg] e pos) (KZ te g):=by
 intro pins s σ H D I h
 refine wpAny_Assign_stores (bx (he pins s σ H _ I h) fun v s1 ⟨x,H1,I1,r1,q1⟩=>?_) hs hw
 rw [h1]
 exact bx (hg pins s1 σ H1 x v _ I1 r1 q1) fun _ s2 q=>q
end
structure It where
 go:Nat->Hp->Prop
 yld:Nat->Hp->V->Hp->Prop
 stop:Nat->Hp->Prop
def ie (X:Cx)(pins:List (Addr×Obj))(H:Hp)(b:Addr):Prop:=
 H b=none/\b≠X.env.locals/\b∉X.fs/\(b∈X.ex\/X.s₀.heap.objs.size<=b)/\(∀x c,X.env.cells.lookup x=some c->c≠b)/\∀p∈X.pn++pins,p.1≠b
theorem Inv.fpOk {X:Cx}{pins:List (Addr×Obj)}{σ:St}{H H':Hp}{s:Shared}{b:Addr}(I:Inv X pins σ H s)(hb:s.heap.objs.size<=b)(hn:H' b=none):ie X pins H' b:=by
 refine ⟨hn,Nat.ne_of_gt (tqi I.lt hb),I.nofs hb,.inr (tqh I.sz hb),fun x c e z=>?_,fun p hp z=>?_⟩
 ·obtain ⟨v,q⟩:=I.cell x c e
  exact absurd (tqi q.lt (by rw [z];exact hb)) (tqn _)
 ·exact absurd (tqi (tqd (I.pin p hp).1) (by rw [z];exact hb)) (tqn _)
structure Turn (P:Program) (w:World) (K:PySem.W.Frag) (tg:Expr) (J:It) (fp:List Addr) (it:Addr) (tn:Nat->Heap->Prop):Prop where
 mem:it∈fp
 obj:∀i h,tn i h->∀b∈fp,∃o,h.get? b=some o/\∀v,o.data≠.cell v
 keep:∀i h h',tn i h->(∀b∈fp,∀o,h.get? b=some o->h'.get? b=some o)->tn i h'
 item:∀(X:Cx),X.prog=P->X.w=w->X.K=K->X.calm=true->∀(i:Nat) (pins:List (Addr×Obj)) (s:Shared) (σ:St) (H:Hp) (E:Value->Shared->Prop),Inv X pins σ H s->(∀b∈fp,ie X pins H b)->tn i s.heap->J.go i H->
  wpAny (model P w) X.A (pyNext (.ref it)) (fun r s1=>∃u,r=some u/\
   wpAny (model P w) X.A (letOwnedTupleGo tg (.ref it) u) (fun _ s2=>∃x H',Inv X pins σ H' s2/\RelV x u/\J.yld i H x H'/\tn (i+1) s2.heap/\∀b∈fp,H' b=none) E s1) E s
 done:∀(X:Cx),X.prog=P->X.w=w->X.K=K->X.calm=true->∀(i:Nat) (pins:List (Addr×Obj)) (s:Shared) (σ:St) (H:Hp) (E:Value->Shared->Prop),Inv X pins σ H s->(∀b∈fp,ie X pins H b)->tn i s.heap->J.stop i H->
  wpAny (model P w) X.A (pyNext (.ref it)) (fun r s1=>r=none/\Inv X pins σ H s1) E s
 self:∀(A:Around) (i:Nat) (s:Shared) (Q:Value->Shared->Prop) (E:Value->Shared->Prop),tn i s.heap->Q (.ref it) s->wpAny (model P w) A (pyIter (.ref it)) Q E s
abbrev TI:=St->Hp->(It->Hp->Prop)->Prop
def Dc (X:Cx)(pins:List (Addr×Obj))(σ:St)(tg:Expr)(R:It->Hp->Prop)(itv:Value)(s2:Shared):Prop:=
 ∃(it:Addr) (fp:List Addr) (tn:Nat->Heap->Prop) (J:It) (H':Hp),itv=.ref it/\Inv X pins σ H' s2/\Turn X.prog X.w X.K tg J fp it tn/\tn 0 s2.heap/\(∀b∈fp,ie X pins H' b)/\R J H'
def PI (X:Cx)(tg iter:Expr)(wi:TI):Prop:=
 ∀(pins:List (Addr×Obj)) (s:Shared) (σ:St) (H:Hp) (R:It->Hp->Prop),Inv X pins σ H s->wi σ H R->
  wpAny (model X.prog X.w) X.A (eval iter X.env) (fun v s1=>wpAny (model X.prog X.w) X.A (pyIter v) (Dc X pins σ tg R) X.xe s1) X.xe s
theorem ub {M:Model}{A:Around}{E:Value->Shared->Prop}{s:Shared}{tg:Expr}{it:Addr}{u:Value}{o:Obj}{n:String}{vs:Array Value}{Q:Unit->Shared->Prop}(ho:s.heap.get? it=some o)(hc:o.cls=.type n)(hd:o.data=.fields vs)
 (hn:["enumerate","zip","dict_itemiterator","dict_reverseitemiterator","odict_iterator","itertools.zip_longest","itertools.pairwise"].contains n=false) (hQ:Q () s):wpAny M A (letOwnedTupleGo tg (.ref it) u) Q E s:=by
 unfold letOwnedTupleGo
 cases tg<;>first
  |exact tqb hQ
  |(cases u<;>first
   |exact tqb hQ
   | (refine tqa (wpAny_load ho ?_)
      rw [hc,hd]
      show wpAny M A (if (["enumerate","zip","dict_itemiterator","dict_reverseitemiterator","odict_iterator","itertools.zip_longest","itertools.pairwise"].contains n&&vs[0]?==some (rawInt _))=true then _ else _) Q E s
      rw [if_neg (by intro h;rw [hn,Bool.false_and] at h;cases h)]
      exact tqb hQ))
def IK (K:PySem.W.Frag)(a:Addr):It:=
 ⟨fun i H=>∃xs x,dq K H a xs/\xs[i]?=some x,fun i H x H'=>H'=H/\∀xs,dq K H a xs->xs[i]?=some x,fun i H=>∃xs,dq K H a xs/\xs.length<=i⟩
def II (K:PySem.W.Frag)(a:Addr):It:=
 ⟨fun i H=>∃xs x,eD K H a xs/\xs[i]?=some x,fun i H x H'=>H'=H/\∀xs,eD K H a xs->xs[i]?=some x,fun i H=>∃xs,eD K H a xs/\xs.length<=i⟩
def De (lo:Int)(n:Nat):It:=⟨fun i _=>i<n,fun i H x H'=>H'=H/\x=.int (lo+i),fun i _=>n<=i⟩
theorem yJ {P:Program}{w:World}{K:PySem.W.Frag}{tg:Expr}(a it:Addr):Turn P w K tg (IK K a) [it] it (fun i h=>h.IsListIter it a i) where
 mem:=by simp
 obj:=fun i h st b hb=>by
  have e:b=it:=by simpa using hb
  subst e
  obtain ⟨o,e,c,d⟩:=st
  exact ⟨o,e,fun v z=>by rw [d] at z;cases z⟩
 keep:=fun i h h' st k=>st.at fun o e=>k it (by simp) o e
 item:=by
  intro X hP hw hK hc i pins s σ H E I hf st hg
  subst hP hw hK
  obtain ⟨xs,x,hq,hx⟩:=hg
  obtain ⟨its,rv,p,hz⟩:=I.list hq
  obtain ⟨u,hu,ru⟩:=rv.get hx
  obtain ⟨f0,f1,f2,f3,f4,f5⟩:=hf it (by simp)
  refine wpAny_pyNext_list_item st p.isList (x:=u) (by simpa using hu) fun h' st' sb=>?_
  have I1:Inv X pins σ H {s with heap:=h'}:=I.turned (t':=s.toks) (fun b o hb e=>(sb.2 b hb).trans e) f0 f1 f3 f4 f5
  obtain ⟨o,e,c,d⟩:=id st'
  exact ⟨u,rfl,ub (s:={s with heap:=h'}) e c d (by decide) ⟨x,H,I1,ru,⟨rfl,fun ys hy=>by rw [I.list_inj hy hq];exact hx⟩,st',fun b hb=>(hf b hb).1⟩⟩
 done:=by
  intro X hP hw hK hc i pins s σ H E I hf st hg
  subst hP hw hK
  obtain ⟨xs,hq,hx⟩:=hg
  obtain ⟨its,rv,p,hz⟩:=I.list hq
  obtain ⟨f0,f1,f2,f3,f4,f5⟩:=hf it (by simp)
  have hl:=rv.length
  exact wpAny_pyNext_list_end (I.ok.hd hc) st p.isList (by simp;omega) fun h' eb=>⟨rfl,I.turned (t':=s.toks) (fun b o hb e=>eb b o hb e) f0 f1 f3 f4 f5⟩
 self:=fun _ _ _ _ _ st h=>wpAny_pyIter_listiter st h
theorem wW {P:Program}{w:World}{K:PySem.W.Frag}{tg:Expr}(a it:Addr):Turn P w K tg (II K a) [it] it (fun i h=>h.IsTupleIter it a i) where
 mem:=by simp
 obj:=fun i h st b hb=>by
  have e:b=it:=by simpa using hb
  subst e
  obtain ⟨o,e,c,d⟩:=st
  exact ⟨o,e,fun v z=>by rw [d] at z;cases z⟩
 keep:=fun i h h' st k=>st.at fun o e=>k it (by simp) o e
 item:=by
  intro X hP hw hK hc i pins s σ H E I hf st hg
  subst hP hw hK
  obtain ⟨xs,x,hq,hx⟩:=hg
  obtain ⟨its,rv,p,hz⟩:=I.tuple hq
  obtain ⟨u,hu,ru⟩:=rv.get hx
  obtain ⟨f0,f1,f2,f3,f4,f5⟩:=hf it (by simp)
  refine wpAny_pyNext_tuple_item st (show s.heap.IsTuple a its.toArray from p) (x:=u) (by simpa using hu) fun h' st' sb=>?_
  have I1:Inv X pins σ H {s with heap:=h'}:=I.turned (t':=s.toks) (fun b o hb e=>(sb.2 b hb).trans e) f0 f1 f3 f4 f5
  obtain ⟨o,e,c,d⟩:=id st'
  exact ⟨u,rfl,ub (s:={s with heap:=h'}) e c d (by decide) ⟨x,H,I1,ru,⟨rfl,fun ys hy=>by rw [I.tuple_inj hy hq];exact hx⟩,st',fun b hb=>(hf b hb).1⟩⟩
 done:=by
  intro X hP hw hK hc i pins s σ H E I hf st hg
  subst hP hw hK
  obtain ⟨xs,hq,hx⟩:=hg
  obtain ⟨its,rv,p,hz⟩:=I.tuple hq
  obtain ⟨f0,f1,f2,f3,f4,f5⟩:=hf it (by simp)
  have hl:=rv.length
  exact wpAny_pyNext_tuple_end (I.ok.hd hc) st (show s.heap.IsTuple a its.toArray from p) (by simp;omega) fun h' eb=>⟨rfl,I.turned (t':=s.toks) (fun b o hb e=>eb b o hb e) f0 f1 f3 f4 f5⟩
 self:=fun _ _ _ _ _ st h=>wpAny_pyIter_tupleiter st h
theorem wX {P:Program}{w:World}{K:PySem.W.Frag}{tg:Expr}(it:Addr)(lo:Int)(n:Nat):Turn P w K tg (De lo n) [it] it (fun i h=>IsRangeIter h it (lo+(i:Nat)*1) ((n:Int)-(i:Nat)) 1) where
 mem:=by simp
 obj:=fun i h st b hb=>by
  have e:b=it:=by simpa using hb
  subst e
  exact ⟨_,st,fun v z=>by
   have z':Data.fields _=Data.cell v:=z
   cases z'⟩
 keep:=fun i h h' st k=>k it (by simp) _ st
 item:=by
  intro X hP hw hK hc i pins s σ H E I hf st hg
  subst hP hw hK
  obtain ⟨f0,f1,f2,f3,f4,f5⟩:=hf it (by simp)
  have W:=Walks.range (prog:=X.prog) (w:=X.w) (I.ok.hd hc) it lo 1 n
  refine W.item i s _ _ hg st fun v h' tk hv st' kk=>?_
  obtain ⟨t,rfl⟩:=hv
  have I1:Inv X pins σ H {s with heap:=h',toks:=tk}:=I.turned (fun b o hb e=>kk b o (by simpa using hb) e) f0 f1 f3 f4 f5
  refine ⟨_,rfl,ub (s:={s with heap:=h',toks:=tk}) (n:="range_iterator") st' rfl rfl (by decide) ⟨.int (lo+i),H,I1,⟨t,?_⟩,⟨rfl,rfl⟩,st',fun b hb=>(hf b hb).1⟩⟩
  rw [Int.mul_one]
 done:=by
  intro X hP hw hK hc i pins s σ H E I hf st hg
  subst hP hw hK
  obtain ⟨f0,f1,f2,f3,f4,f5⟩:=hf it (by simp)
  exact wpAny_pyNext_range_end (I.ok.hd hc) st (by have:n<=i:=hg;omega) fun h' eb=>⟨rfl,I.turned (t':=s.toks) (fun b o hb e=>eb b o hb e) f0 f1 f3 f4 f5⟩
 self:=fun _ _ _ _ _ st h=>wpAny_pyIter_rangeiter st h
end L2
namespace L2
open PySem PySem.Spec PyProof.Rows
section
variable {X:Cx}{tg:Expr}
def JC (K:PySem.W.Frag)(tl:TE):TI:=fun σ H R=>tl σ H fun x H1=>∃a,x=.ref a/\(∃xs,dq K H1 a xs)/\R (IK K a) H1
def L8 (K:PySem.W.Frag)(tl:TE):TI:=fun σ H R=>tl σ H fun x H1=>∃a,x=.ref a/\(∃xs,eD K H1 a xs)/\R (II K a) H1
theorem D6 {l:Expr}{tl:TE}(hl:PE X l tl):PI X tg l (JC X.K tl):=by
 intro pins s σ H R I h
 refine bx (hl pins s σ H _ I h) fun v s1 ⟨x,H1,I1,r1,q1⟩=>?_
 obtain ⟨a,e,⟨xs,hq⟩,q⟩:=q1
 subst e
 cases r1
 obtain ⟨its,rv,p,hz⟩:=I1.list hq
 refine wpAny_pyIter_list p.isList ?_
 refine ⟨s1.heap.objs.size,[s1.heap.objs.size],_,_,H1,rfl,I1.kept (t':=s1.toks) fun b o e=>tqc _ e,yJ a _,⟨_,tqe _ rfl,rfl,rfl⟩,fun b hb=>?_,q⟩
 have e:b=s1.heap.objs.size:=by simpa using hb
 subst e
 exact I1.fpOk (tqg _) (I1.hok.fresh (tqg _))
theorem Gd {l:Expr}{tl:TE}(hl:PE X l tl):PI X tg l (L8 X.K tl):=by
 intro pins s σ H R I h
 refine bx (hl pins s σ H _ I h) fun v s1 ⟨x,H1,I1,r1,q1⟩=>?_
 obtain ⟨a,e,⟨xs,hq⟩,q⟩:=q1
 subst e
 cases r1
 obtain ⟨its,rv,p,hz⟩:=I1.tuple hq
 refine wpAny_pyIter_tuple (show s1.heap.IsTuple a its.toArray from p) ?_
 refine ⟨s1.heap.objs.size,[s1.heap.objs.size],_,_,H1,rfl,I1.kept (t':=s1.toks) fun b o e=>tqc _ e,wW a _,⟨_,tqe _ rfl,rfl,rfl⟩,fun b hb=>?_,q⟩
 have e:b=s1.heap.objs.size:=by simpa using hb
 subst e
 exact I1.fpOk (tqg _) (I1.hok.fresh (tqg _))
theorem Bf {pins:List (Addr×Obj)}{σ:St}{H:Hp}{s:Shared}{R:It->Hp->Prop}{E:Value->Shared->Prop}{lo hi:Int}{t u v:Tok}{tk:Nat}(I:Inv X pins σ H s)(h1:-(2^62)<=lo)(h2:lo<2^62)(h3:-(2^62)<=hi)(h4:hi<2^62)
 (q:R (De lo (hi-lo).toNat) H):wpAny (model X.prog X.w) X.A (pyIter (.ref s.heap.objs.size)) (Dc X pins σ tg R) E {s with heap:=s.heap.push {cls:=.type "range",data:=.fields #[.int lo t,.int hi u,.int 1 v]},toks:=tk}:=by
 refine wpAny_pyIter_range (IsRange.new ..) (small_one h1 h2 h3 h4) ?_
 have I1:Inv X pins σ H {s with heap:=s.heap.push {cls:=.type "range",data:=.fields #[.int lo t,.int hi u,.int 1 v]},toks:=tk}:=I.kept fun b o e=>tqc _ e
 refine ⟨(s.heap.push {cls:=.type "range",data:=.fields #[.int lo t,.int hi u,.int 1 v]}).objs.size,[(s.heap.push {cls:=.type "range",data:=.fields #[.int lo t,.int hi u,.int 1 v]}).objs.size],_,_,H,rfl,
  I1.kept (t':=tk) fun b o e=>tqc _ e,wX _ lo (hi-lo).toNat,?_,fun b hb=>?_,q⟩
 ·have e1:lo+((0:Nat):Int)*1=lo:=by simp
  have e2:(((hi-lo).toNat:Nat):Int)-((0:Nat):Int)=Builtin.Range.rangeSize lo hi 1:=by rw [rangeSize_one];split<;>omega
  show IsRangeIter _ _ (lo+((0:Nat):Int)*1) ((((hi-lo).toNat:Nat):Int)-((0:Nat):Int)) 1
  rw [e1,e2]
  exact tqe _ rfl
 ·have e:b=(s.heap.push {cls:=.type "range",data:=.fields #[.int lo t,.int hi u,.int 1 v]}).objs.size:=by simpa using hb
  subst e
  exact I1.fpOk (tqg _) (I1.hok.fresh (tqg _))
def JB (ta:TA):TI:=fun σ H R=>ta σ H fun vs H1=>∃j:Int,vs=[.int j]/\-(2^62)<=j/\j<2^62/\R (De 0 j.toNat) H1
theorem zi {a:Expr}{ta:TA}{p pos:Pos}(hg:Gl X "range")(hm:X.mg "range"=none)(ha:PA X [a] ta)(hs:starEach [a] X.env=[(false,eval a X.env)]:=by rfl):PI X tg (.Call (.Name "range" p) [a] [] pos) (JB ta):=by
 intro pins s σ H R I h
 refine Call_ (jU I hg hm boot_range (PyProof.Rows.callWith_type1 (bx (ha pos pins s σ H _ I h) fun us s1 ⟨vs,H1,I1,r1,q1⟩=>?_) hs rfl))
 obtain ⟨j,e,q1,q2,q⟩:=q1
 subst e
 cases r1 with
 | cons r rr =>
   cases rr
   obtain ⟨t,rfl⟩:=r
   exact call_range_1 (Bf I1 (by omega) (by omega) q1 q2 (by simpa using q))
def KY (wi:TI)(g:TG)(tb:TS):TS:=fun D σ H=>wi σ H fun J H1=>∃W:Nat->Nat->St->Hp->Prop,(∃m,W 0 m σ H1)/\∀i m σ H,W i m σ H->
 (J.stop i H/\D.nx σ H)\/(J.go i H/\∃N:St->Hp->Prop,(∀σ' H',N σ' H'->∃m',m'<m/\W (i+1) m' σ' H')/\∀x H',J.yld i H x H'->g x σ H' fun σ2 H2=>tb {D with nx:=N,ct:=N,bk:=D.nx} σ2 H2)
def qr (fp:List Addr)(h:Heap):List (Addr×Obj):=fp.filterMap fun b=>(h.get? b).map fun o=>(b,o)
theorem kg {fp:List Addr}{h:Heap}{b:Addr}{o:Obj}(hb:b∈fp)(e:h.get? b=some o):(b,o)∈qr fp h:=List.mem_filterMap.mpr ⟨b,hb,by rw [e];rfl⟩
theorem zz {fp:List Addr}{h:Heap}{p:Addr×Obj}(hp:p∈qr fp h):p.1∈fp/\h.get? p.1=some p.2:=by
 obtain ⟨b,hb,e⟩:=List.mem_filterMap.mp hp
 cases q:h.get? b with
 |none=>rw [q] at e;cases e
 | some o =>
   rw [q] at e
   have e':(b,o)=p:=Option.some.inj e
   subst e'
   exact ⟨hb,q⟩
theorem Inv.pinned {pins:List (Addr×Obj)}{σ:St}{H:Hp}{s:Shared}{fp:List Addr}(I:Inv X pins σ H s)(hf:∀b∈fp,ie X pins H b)(ho:∀b∈fp,∃o,s.heap.get? b=some o/\∀v,o.data≠.cell v):Inv X (pins++qr fp s.heap) σ H s:=
 I.pins_of fun p hp=>(List.mem_append.mp hp).elim (fun z=>I.pin p (List.mem_append_right _ z)) fun z=>by
  obtain ⟨hb,e⟩:=zz z
  obtain ⟨f0,f1,f2,_⟩:=hf p.1 hb
  obtain ⟨o,e',d⟩:=ho p.1 hb
  rw [e] at e';cases e'
  exact ⟨e,f0,f1,f2,d⟩
theorem Inv.unpinned {pins pl:List (Addr×Obj)}{σ:St}{H:Hp}{s:Shared}(I:Inv X (pins++pl) σ H s):Inv X pins σ H s:=I.pins_of fun p hp=>I.pin p (List.mem_append_right _ (List.mem_append_left _ hp))
theorem Gb {iter:Expr}{body:List Stmt}{wi:TI}{g:TG}{tb:TS}{pos:Pos}(hp:PassesOwn (model X.prog X.w) X.A X.env X.xe)(hc:X.calm=true)(hi:PI X tg iter wi)(hg:PG X tg g)(hb:n8 X body tb)
 (hs:∀x,foldedSetIterable iter X.env x=pure x:=by intro _;rfl):PS X (.For tg iter body [] pos) (KY wi g tb):=by
 intro pins s σ H D I h
 refine wpAny_For (bx (hi pins s σ H _ I h) fun v s1 h1=>bx h1 fun itv s2 h2=>?_) hs
 obtain ⟨it,fp,tn,J,H2,e,I2,T,st2,f2,W,⟨m0,w0⟩,turn⟩:=h2
 subst e
 have stat:∀{H':Hp},(∀b∈fp,H' b=none)->∀b∈fp,ie X pins H' b:=fun hn b hb=>⟨hn b hb,(f2 b hb).2⟩
 refine codeAny_forLoop_any (fun n s'=>∃i σ' H',Inv X pins σ' H' s'/\tn i s'.heap/\(∀b∈fp,H' b=none)/\W i n σ' H') ?_ m0 ⟨0,σ,H2,I2,st2,fun b hb=>(f2 b hb).1,w0⟩
 rintro n s3 ⟨i,σ3,H3,I3,st3,fr3,w3⟩
 rcases turn i n σ3 H3 w3 with ⟨stop,qn⟩|⟨go,N,hN,step⟩
 ·refine wpAny_passesOwn hp (bx (T.done X rfl rfl rfl hc i pins s3 σ3 H3 X.xe I3 (stat fr3) st3 stop) fun r s4 ⟨hr,I4⟩=>?_)
  subst hr
  exact wpAny_execs_nil ⟨σ3,H3,I4,qn⟩
 ·refine wpAny_passesOwn hp (bx (T.item X rfl rfl rfl hc i pins s3 σ3 H3 X.xe I3 (stat fr3) st3 go) fun r s4 ⟨u,hr,h4⟩=>?_)
  subst hr
  refine wpAny_passesOwn hp (bx h4 fun _ s5 ⟨x,H5,I5,r5,y5,st5,fr5⟩=>?_)
  have I5':=I5.pinned (stat fr5) (T.obj _ _ st5)
  refine wpAny_passesOwn hp (bx (hg _ s5 σ3 H5 x u _ I5' r5 (step x H5 y5)) fun _ s6 ⟨σ6,H6,I6,q6⟩=>?_)
  refine wpAny_passesOwn hp (bx (hb _ s6 σ6 H6 _ I6 q6) fun f s7 q7=>?_)
  have again:∀{σ7:St}{H7:Hp},Inv X (pins++qr fp s5.heap) σ7 H7 s7->N σ7 H7->∃m,m<n/\∃i σ' H',Inv X pins σ' H' s7/\tn i s7.heap/\(∀b∈fp,H' b=none)/\W i m σ' H':=fun {σ7 H7} I7 n7=>by
   obtain ⟨m',hm,w7⟩:=hN σ7 H7 n7
   refine ⟨m',hm,i+1,σ7,H7,I7.unpinned,T.keep _ _ _ st5 fun b hb o e=>(I7.pin (b,o) (List.mem_append_right _ (List.mem_append_right _ (kg hb e)))).1,fun b hb=>?_,w7⟩
   obtain ⟨o,e,d⟩:=T.obj _ _ st5 b hb
   exact (I7.pin (b,o) (List.mem_append_right _ (List.mem_append_right _ (kg hb e)))).2.1
  cases f with
  |next=>obtain ⟨σ7,H7,I7,n7⟩:=q7;exact again I7 n7
  |cont=>obtain ⟨σ7,H7,I7,n7⟩:=q7;exact again I7 n7
  |brk=>obtain ⟨σ7,H7,I7,q7⟩:=q7;exact ⟨σ7,H7,I7.unpinned,q7⟩
  |ret v=>obtain ⟨x7,σ7,H7,I7,r7,q7⟩:=q7;exact ⟨x7,σ7,H7,I7.unpinned,r7,q7⟩
end
end L2
namespace L2
open PySem PySem.Spec PyProof.Rows
abbrev R2:=V->V->Hp->VK->Prop
def cu (X:Cx)(f:Value->Value->Sem Value)(r:R2):Prop:=
 ∀(pins:List (Addr×Obj)) (s:Shared) (σ:St) (H:Hp) (x y:V) (v u:Value) (Q:VK),Inv X pins σ H s->RelV x v->RelV y u->r x y H Q->
  wpAny (model X.prog X.w) X.A (f v u) (EP X pins σ Q) X.xe s
def IE (X:Cx)(f:Value->Sem Value)(r:V->Hp->VK->Prop):Prop:=
 ∀(pins:List (Addr×Obj)) (s:Shared) (σ:St) (H:Hp) (x:V) (v:Value) (Q:VK),Inv X pins σ H s->RelV x v->r x H Q->
  wpAny (model X.prog X.w) X.A (f v) (EP X pins σ Q) X.xe s
def dA (X:Cx)(f:Value)(r:List V->Hp->VK->Prop):Prop:=
 ∀(pins:List (Addr×Obj)) (s:Shared) (σ:St) (H:Hp) (xs:List V) (us:List Value) (Q:VK),Inv X pins σ H s->Vals xs us->r xs H Q->
  wpAny (model X.prog X.w) X.A (call f us) (EP X pins σ Q) X.xe s
def Mo (X:Cx)(r:V->Hp->(Bool->Hp->Prop)->Prop):Prop:=
 ∀(pins:List (Addr×Obj)) (s:Shared) (σ:St) (H:Hp) (x:V) (v:Value) (Q:Bool->Hp->Prop),Inv X pins σ H s->RelV x v->r x H Q->
  wpAny (model X.prog X.w) X.A (truthy v) (TP X pins σ Q) X.xe s
def yO (r:R2)(ta tb:TE):TE:=fun σ H Q=>ta σ H fun x H1=>tb σ H1 fun y H2=>r x y H2 Q
def tUn (r:V->Hp->VK->Prop)(ta:TE):TE:=fun σ H Q=>ta σ H fun x H1=>r x H1 Q
def rI (C:Int->Int->Prop)(g:Int->Int->V):R2:=fun x y H Q=>∃i j,x=.int i/\y=.int j/\C i j/\Q (g i j) H
def sN (g:Int->Int->V):R2:=fun x y H Q=>∃i j,x=.int i/\y=.int j/\Q (g i j) H
def rU (g:Int->V):V->Hp->VK->Prop:=fun x H Q=>∃i,x=.int i/\Q (g i) H
section
variable {X:Cx}{a b c:Expr}{ta tb tc:TE}{pos:Pos}
theorem Ci (ha:PE X a ta)(hb:PE X b tb){pins:List (Addr×Obj)}{s:Shared}{σ:St}{H:Hp}{R:V->V->Hp->Prop}(I:Inv X pins σ H s)
 (h:ta σ H fun x H1=>tb σ H1 fun y H2=>R x y H2) {Q:Value->Shared->Prop}{f:Value->Value->Sem Value}
 (hf:∀v u s2 x y H2,Inv X pins σ H2 s2->RelV x v->RelV y u->R x y H2->wpAny (model X.prog X.w) X.A (f v u) Q X.xe s2) :
 wpAny (model X.prog X.w) X.A (eval a X.env) (fun v s₁=>wpAny (model X.prog X.w) X.A (eval b X.env) (fun u s₂=>wpAny (model X.prog X.w) X.A (f v u) Q X.xe s₂) X.xe s₁) X.xe s:=by
 refine bx (ha pins s σ H _ I h) fun v s1 ⟨x,H1,I1,r1,q1⟩=>?_
 refine bx (hb pins s1 σ H1 _ I1 q1) fun u s2 ⟨y,H2,I2,r2,q2⟩=>?_
 exact hf v u s2 x y H2 I2 r1 r2 q2
theorem Jj {op:Operator}{r:R2}(ho:cu X (binaryOp op) r)(ha:PE X a ta)(hb:PE X b tb):PE X (.BinOp a op b pos) (yO r ta tb):=by
 intro pins s σ H Q I h
 exact wpAny_BinOp (Ci ha hb I h fun v u s2 x y H2 I2 rx ry q=>ho pins s2 σ H2 x y v u Q I2 rx ry q)
theorem CK {op:UnaryOp}{r:V->Hp->VK->Prop}(ho:IE X (unaryOp op) r)(ha:PE X a ta):PE X (.UnaryOp op a pos) (tUn r ta):=by
 intro pins s σ H Q I h
 exact UnaryOp_ (bx (ha pins s σ H _ I h) fun v s1 ⟨x,H1,I1,r1,q1⟩=>ho pins s1 σ H1 x v Q I1 r1 q1)
theorem CQ {f:Value->Value->Sem Value}{C:Int->Int->Prop}{g:Int->Int->Int}
 (rule:∀(i j:Int) (t u:Tok) (s:Shared) (Q:Value->Shared->Prop) (E:Value->Shared->Prop),C i j->Q (.int (g i j) s.toks) {s with toks:=s.toks+1}->wpAny (model X.prog X.w) X.A (f (.int i t) (.int j u)) Q E s) :
 cu X f (rI C fun i j=>.int (g i j)):=by
 intro pins s σ H x y v u Q I rx ry h
 obtain ⟨i,j,rfl,rfl,hc,q⟩:=h
 obtain ⟨t,rfl⟩:=rx
 obtain ⟨t',rfl⟩:=ry
 exact rule i j t t' s _ _ hc ⟨.int (g i j),H,I.tok _,⟨_,rfl⟩,q⟩
theorem GF {f:Value->Value->Sem Value}{g:Int->Int->Int}
 (rule:∀(i j:Int) (t u:Tok) (s:Shared) (Q:Value->Shared->Prop) (E:Value->Shared->Prop),Q (.int (g i j) s.toks) {s with toks:=s.toks+1}->wpAny (model X.prog X.w) X.A (f (.int i t) (.int j u)) Q E s) :
 cu X f (sN fun i j=>.int (g i j)):=by
 intro pins s σ H x y v u Q I rx ry h
 obtain ⟨i,j,rfl,rfl,q⟩:=h
 obtain ⟨t,rfl⟩:=rx
 obtain ⟨t',rfl⟩:=ry
 exact rule i j t t' s _ _ ⟨.int (g i j),H,I.tok _,⟨_,rfl⟩,q⟩
theorem xr {f:Value->Value->Sem Value}{g:Int->Int->Bool}
 (rule:∀(i j:Int) (t u:Tok) (s:Shared) (Q:Value->Shared->Prop) (E:Value->Shared->Prop),Q (.bool (g i j)) s->wpAny (model X.prog X.w) X.A (f (.int i t) (.int j u)) Q E s) :
 cu X f (sN fun i j=>.bl (g i j)):=by
 intro pins s σ H x y v u Q I rx ry h
 obtain ⟨i,j,rfl,rfl,q⟩:=h
 obtain ⟨t,rfl⟩:=rx
 obtain ⟨t',rfl⟩:=ry
 exact rule i j t t' s _ _ ⟨.bl (g i j),H,I,rfl,q⟩
def IP (i j:Int):Prop:=0<j/\j<1073741824
def IM (i j:Int):Prop:=0<=j/\j<=1000000/\i.natAbs<2^64
def Cr (i j:Int):Prop:=(-(2^64)<i/\i<2^64)\/(-(2^64)<j/\j<2^64)
theorem Cr.ok {i j:Int}(h:Cr i j):IntMulOk i j:=by
 rcases h with ⟨h1,h2⟩|⟨h1,h2⟩
 ·exact .of_left (intBits_le_64 h1 h2)
 ·exact .of_right (intBits_le_64 h1 h2)
theorem GD:cu X (binaryOp .Add) (sN fun i j=>.int (i+j)):=GF fun _ _ _ _ _ _ _ q=>add_int q
theorem Gu:cu X (binaryOp .Sub) (sN fun i j=>.int (i-j)):=GF fun _ _ _ _ _ _ _ q=>sub_int q
theorem Gx:cu X (binaryOp .Mult) (rI Cr fun i j=>.int (i*j)):=CQ fun _ _ _ _ _ _ _ hc q=>mul_int q hc.ok
theorem Ed:cu X (binaryOp .FloorDiv) (rI IP fun i j=>.int (i / j)):=CQ fun i j _ _ _ _ _ hc q=>by
 have h1:(0:Int)<j:=hc.1
 have h2:j<1073741824:=hc.2
 exact floordiv_int (by omega) (by rw [Int.fdiv_eq_ediv_of_nonneg i (by omega)];exact q) (.inl (PyProof.noPylong_small (by omega)))
theorem Gy:cu X (binaryOp .Mod) (rI (fun _ j=>0<j) fun i j=>.int (i % j)):=CQ fun i j _ _ _ _ _ hc q=>by
 have h1:(0:Int)<j:=hc
 exact mod_int' (by omega) (by rw [Int.fmod_eq_emod_of_nonneg i (by omega)];exact q)
theorem Gw:cu X (binaryOp .Pow) (rI IM fun i j=>.int (i^j.toNat)):=CQ fun _ _ _ _ _ _ _ hc q=>pow_int_small hc.1 hc.2.1 hc.2.2 q
theorem unI {f:Value->Sem Value}{g:Int->Int}
 (rule:∀(i:Int) (t:Tok) (s:Shared) (Q:Value->Shared->Prop) (E:Value->Shared->Prop),Q (.int (g i) s.toks) {s with toks:=s.toks+1}->wpAny (model X.prog X.w) X.A (f (.int i t)) Q E s) :
 IE X f (rU fun i=>.int (g i)):=by
 intro pins s σ H x v Q I rx h
 obtain ⟨i,rfl,q⟩:=h
 obtain ⟨t,rfl⟩:=rx
 exact rule i t s _ _ ⟨.int (g i),H,I.tok _,⟨_,rfl⟩,q⟩
theorem yH:IE X (unaryOp .USub) (rU fun i=>.int (-i)):=unI fun _ _ _ _ _ q=>neg_int q
end
def FC:V->V->Bool
 |.non,.non=>true|.non,.int _=>true|.int _,.non=>true|.non,.bl _=>true|.bl _,.non=>true|.non,.str _=>true|.str _,.non=>true
 |.int _,.int _=>true|.bl _,.bl _=>true|.str _,.str _=>true|.byt _,.byt _=>true
 |.int _,.str _=>true|.str _,.int _=>true|.bl _,.str _=>true|.str _,.bl _=>true
 |_,_=>false
def rEq:R2:=fun x y H Q=>FC x y=true/\Q (.bl (decide (x=y))) H
def rNe:R2:=fun x y H Q=>FC x y=true/\Q (.bl (!decide (x=y))) H
theorem wK {i j:Int}:decide (V.int i=V.int j)=(i==j):=by
 rw [Bool.eq_iff_iff]
 simp
theorem Ac {i j:Bool}:decide (V.bl i=V.bl j)=(i==j):=by
 rw [Bool.eq_iff_iff]
 simp
theorem oJ {i j:Str}:decide (V.str i=V.str j)=(i==j):=by
 rw [Bool.eq_iff_iff]
 simp
theorem wL {i j:Array UInt8}:decide (V.byt i=V.byt j)=(i.toList==j.toList):=by
 rw [Bool.eq_iff_iff]
 cases i
 cases j
 simp
section
variable {X:Cx}{a b c:Expr}{ta tb tc:TE}{pos:Pos}
theorem bS {pins:List (Addr×Obj)}{σ:St}{H:Hp}{s:Shared}{Q:VK}{k k':Bool}(I:Inv X pins σ H s)(q:Q (.bl k) H)(e:k=k'):EP X pins σ Q (.bool k') s:=by
 subst e
 exact ⟨.bl k,H,I,rfl,q⟩
theorem Ju:cu X (compareOp .Eq) rEq:=by
 intro pins s σ H x y v u Q I rx ry h
 obtain ⟨hs,q⟩:=h
 cases x with
 | non =>
   cases rx
   cases y with
   |non=>cases ry;exact PySem.EqNone.eq_none_none (bS I q (by simp))
   |bl j=>cases ry;exact PySem.EqNone.eq_none_bool (bS I q (by simp))
   |int j=>obtain ⟨t',rfl⟩:=ry;exact PySem.EqNone.eq_none_int (bS I q (by simp))
   |str j=>obtain ⟨t',rfl⟩:=ry;exact PySem.EqNone.eq_none_str (bS I q (by simp))
   |_=>exact absurd (show false=true from hs) tqj
 | bl i =>
   cases rx
   cases y with
   |non=>cases ry;exact PySem.EqNone.eq_bool_none (bS I q (by simp))
   |bl j=>cases ry;exact eq_bool (bS I q Ac)
   |str j=>obtain ⟨t',rfl⟩:=ry;exact PySem.EqMixed.eq_bool_str (bS I q (by simp))
   |_=>exact absurd (show false=true from hs) tqj
 | int i =>
   obtain ⟨t,rfl⟩:=rx
   cases y with
   |non=>cases ry;exact PySem.EqNone.eq_int_none (bS I q (by simp))
   |int j=>obtain ⟨t',rfl⟩:=ry;exact eq_int (bS I q wK)
   |str j=>obtain ⟨t',rfl⟩:=ry;exact PySem.EqMixed.eq_int_str (bS I q (by simp))
   |_=>exact absurd (show false=true from hs) tqj
 | str i =>
   obtain ⟨t,rfl⟩:=rx
   cases y with
   |non=>cases ry;exact PySem.EqNone.eq_str_none (bS I q (by simp))
   |bl j=>cases ry;exact PySem.EqMixed.eq_str_bool (bS I q (by simp))
   |int j=>obtain ⟨t',rfl⟩:=ry;exact PySem.EqMixed.eq_str_int (bS I q (by simp))
   |str j=>obtain ⟨t',rfl⟩:=ry;exact eq_str (bS I q oJ)
   |_=>exact absurd (show false=true from hs) tqj
 | byt i =>
   obtain ⟨t,rfl⟩:=rx
   cases y with
   |byt j=>obtain ⟨t',rfl⟩:=ry;exact PySem.W.eq_bytes (bS I q wL)
   |_=>exact absurd (show false=true from hs) tqj
 |_=>cases y<;>exact absurd (show false=true from hs) tqj
theorem Jp:cu X (compareOp .NotEq) rNe:=by
 intro pins s σ H x y v u Q I rx ry h
 obtain ⟨hs,q⟩:=h
 cases x with
 | non =>
   cases rx
   cases y with
   |non=>cases ry;exact PySem.EqNone.ne_none_none (bS I q (by simp))
   |bl j=>cases ry;exact PySem.EqNone.ne_none_bool (bS I q (by simp))
   |int j=>obtain ⟨t',rfl⟩:=ry;exact PySem.EqNone.ne_none_int (bS I q (by simp))
   |str j=>obtain ⟨t',rfl⟩:=ry;exact PySem.EqNone.ne_none_str (bS I q (by simp))
   |_=>exact absurd (show false=true from hs) tqj
 | bl i =>
   cases rx
   cases y with
   |non=>cases ry;exact PySem.EqNone.ne_bool_none (bS I q (by simp))
   |bl j=>cases ry;exact ne_bool (bS I q (congrArg not Ac))
   |str j=>obtain ⟨t',rfl⟩:=ry;exact PySem.EqMixed.ne_bool_str (bS I q (by simp))
   |_=>exact absurd (show false=true from hs) tqj
 | int i =>
   obtain ⟨t,rfl⟩:=rx
   cases y with
   |non=>cases ry;exact PySem.EqNone.ne_int_none (bS I q (by simp))
   |int j=>obtain ⟨t',rfl⟩:=ry;exact ne_int (bS I q (congrArg not wK))
   |str j=>obtain ⟨t',rfl⟩:=ry;exact PySem.EqMixed.ne_int_str (bS I q (by simp))
   |_=>exact absurd (show false=true from hs) tqj
 | str i =>
   obtain ⟨t,rfl⟩:=rx
   cases y with
   |non=>cases ry;exact PySem.EqNone.ne_str_none (bS I q (by simp))
   |bl j=>cases ry;exact PySem.EqMixed.ne_str_bool (bS I q (by simp))
   |int j=>obtain ⟨t',rfl⟩:=ry;exact PySem.EqMixed.ne_str_int (bS I q (by simp))
   |str j=>obtain ⟨t',rfl⟩:=ry;exact ne_str (bS I q (congrArg not oJ))
   |_=>exact absurd (show false=true from hs) tqj
 | byt i =>
   obtain ⟨t,rfl⟩:=rx
   cases y with
   |byt j=>obtain ⟨t',rfl⟩:=ry;exact PySem.W.ne_bytes (bS I q (congrArg not wL))
   |_=>exact absurd (show false=true from hs) tqj
 |_=>cases y<;>exact absurd (show false=true from hs) tqj
theorem Jq:cu X (compareOp .Lt) (sN fun i j=>.bl (decide (i<j))):=xr fun _ _ _ _ _ _ _ q=>lt_int q
theorem Jr:cu X (compareOp .LtE) (sN fun i j=>.bl (decide (i<=j))):=xr fun _ _ _ _ _ _ _ q=>le_int q
theorem Js:cu X (compareOp .Gt) (sN fun i j=>.bl (decide (j<i))):=xr fun _ _ _ _ _ _ _ q=>gt_int q
theorem Jt:cu X (compareOp .GtE) (sN fun i j=>.bl (decide (j<=i))):=xr fun _ _ _ _ _ _ _ q=>ge_int q
theorem zy:cu X (compareOp .In) (fun x y H Q=>∃i j,x=.str i/\y=.str j/\Q (.bl (!(Builtin.Str.occurrences j i 0 j.length 1).isEmpty)) H):=by
 intro pins s σ H x y v u Q I rx ry h
 obtain ⟨i,j,rfl,rfl,q⟩:=h
 obtain ⟨t,rfl⟩:=rx
 obtain ⟨t',rfl⟩:=ry
 exact in_str (bS I q rfl)
theorem Gz:cu X (compareOp .Is) (fun x y H Q=>y=.non/\Q (.bl (decide (x=.non))) H):=by
 intro pins s σ H x y v u Q I rx ry h
 obtain ⟨rfl,q⟩:=h
 cases ry
 refine is_none_gen (bS I q ?_)
 cases x<;>first
  |(cases rx;rfl)
  |(obtain ⟨t,rfl⟩:=rx;rfl)
theorem Ec:cu X (compareOp .IsNot) (fun x y H Q=>y=.non/\Q (.bl (!decide (x=.non))) H):=by
 intro pins s σ H x y v u Q I rx ry h
 obtain ⟨rfl,q⟩:=h
 cases ry
 refine isnot_none_gen (bS I q ?_)
 cases x<;>first
  |(cases rx;rfl)
  |(obtain ⟨t,rfl⟩:=rx;rfl)
theorem uZ:cu X (compareOp .NotIn) (fun x y H Q=>∃i j,x=.str i/\y=.str j/\Q (.bl (!(!(Builtin.Str.occurrences j i 0 j.length 1).isEmpty))) H):=by
 intro pins s σ H x y v u Q I rx ry h
 obtain ⟨i,j,rfl,rfl,q⟩:=h
 obtain ⟨t,rfl⟩:=rx
 obtain ⟨t',rfl⟩:=ry
 exact notIn_str (bS I q rfl)
theorem D8 {op:CmpOp}{r:R2}(ho:cu X (compareOp op) r)(ha:PE X a ta)(hb:PE X b tb)(hm:behindInMarks op b=false):PE X (.Compare a [op] [b] pos) (yO r ta tb):=by
 intro pins s σ H Q I h
 exact wpAny_Compare1 (Ci ha hb I h fun v u s2 x y H2 I2 rx ry q=>ho pins s2 σ H2 x y v u Q I2 rx ry q) hm
def Cz (t:TE):TT:=fun σ H Q=>t σ H fun x H'=>∃k,x=.bl k/\Q k H'
theorem wb {op:CmpOp}{r:R2}(ho:cu X (compareOp op) r)(ha:PE X a ta)(hb:PE X b tb)(hm:behindInMarks op b=false):PT X (.Compare a [op] [b] pos) (Cz (yO r ta tb)):=by
 intro pins s σ H Q I h
 refine wpAny_isTrue_Compare1 (bx (ha pins s σ H _ I h) fun v s1 ⟨x,H1,I1,r1,q1⟩=>bx (hb pins s1 σ H1 _ I1 q1) fun u s2 ⟨y,H2,I2,r2,q2⟩=>
  bx (ho pins s2 σ H2 x y v u _ I2 r1 r2 q2) fun c s3 ⟨z,H3,I3,r3,k,e,q3⟩=>?_) hm
 subst e
 cases r3
 exact tqp ⟨H3,I3,q3⟩
def uv (r r':R2)(ta tb tc:TE):TE:=fun σ H Q=>ta σ H fun x H1=>tb σ H1 fun y H2=>r x y H2 fun z H3=>∃k,z=.bl k/\
 (if k=true then tc σ H3 fun w' H4=>r' y w' H4 Q else Q (.bl false) H3)
theorem Bl {op op':CmpOp}{r r':R2}(ho:cu X (compareOp op) r)(ho':cu X (compareOp op') r')(ha:PE X a ta)(hb:PE X b tb)(hc:PE X c tc)
 (hm:lastMarks [op,op'] [b,c]=false:=by with_unfolding_all rfl):PE X (.Compare a [op,op'] [b,c] pos) (uv r r' ta tb tc):=by
 intro pins s σ H Q I h
 refine Compare_chain (bx (ha pins s σ H _ I h) fun v s1 ⟨x,H1,I1,r1,q1⟩=>chain_link (bx (hb pins s1 σ H1 _ I1 q1) fun u s2 ⟨y,H2,I2,r2,q2⟩=>
  bx (ho pins s2 σ H2 x y v u _ I2 r1 r2 q2) fun d s3 ⟨z,H3,I3,r3,k,e,q3⟩=>?_)) hm
 subst e
 cases r3
 refine tqp ?_
 cases k with
 |false=>exact ite_ff ⟨.bl false,H3,I3,rfl,q3⟩
 |true=>exact ite_tt (chain_last (bx (hc pins s3 σ H3 _ I3 q3) fun w' s4 ⟨z',H4,I4,r4,q4⟩=>ho' pins s4 σ H4 y z' u w' Q I4 r2 r4 q4))
theorem Bh {op op':CmpOp}{r r':R2}(ho:cu X (compareOp op) r)(ho':cu X (compareOp op') r')(ha:PE X a ta)(hb:PE X b tb)(hc:PE X c tc)
 (hm:lastMarks [op,op'] [b,c]=false:=by with_unfolding_all rfl):PT X (.Compare a [op,op'] [b,c] pos) (Cz (uv r r' ta tb tc)):=by
 intro pins s σ H Q I h
 refine isTrue_chain (bx (ha pins s σ H _ I h) fun v s1 ⟨x,H1,I1,r1,q1⟩=>test_link (bx (hb pins s1 σ H1 _ I1 q1) fun u s2 ⟨y,H2,I2,r2,q2⟩=>
  bx (ho pins s2 σ H2 x y v u _ I2 r1 r2 q2) fun d s3 ⟨z,H3,I3,r3,k,e,q3⟩=>?_)) hm
 subst e
 cases r3
 refine tqp ?_
 cases k with
 | false =>
   obtain ⟨k',e',q'⟩:=q3
   cases e'
   exact ite_ff ⟨H3,I3,q'⟩
 | true =>
   refine ite_tt (test_last (bx (hc pins s3 σ H3 _ I3 q3) fun w' s4 ⟨z',H4,I4,r4,q4⟩=>bx (ho' pins s4 σ H4 y z' u w' _ I4 r2 r4 q4) fun d' s5 ⟨z2,H5,I5,r5,k2,e2,q5⟩=>?_))
   subst e2
   cases r5
   exact tqp ⟨H5,I5,q5⟩
def Cn (K:PySem.W.Frag)(x:V)(H:Hp)(k:Bool):Prop:=
 match x with
 |.non=>k=false
 |.bl b=>k=b
 |.int i=>k=(i != 0)
 |.str y=>y.length<=sizeLine/\k=((y.length:Int) != 0)
 |.byt y=>y.size<=sizeLine/\k=((y.size:Int) != 0)
 |.ref p=>(∃xs,dq K H p xs/\k=!xs.isEmpty)\/(∃xs,eD K H p xs/\k=!xs.isEmpty)\/∃kvs,H p=some (.dK kvs)/\k=!kvs.isEmpty
 |_=>False
theorem ya {κ:Type}{kvs:List (κ×V)}{vs:List (κ×Value)}(r:KV kvs vs):(!vs.isEmpty)=!kvs.isEmpty:=by
 cases r<;>rfl
theorem qK {xs:List V}{its:List Value}(r:Vals xs its):(!its.toArray.isEmpty)=!xs.isEmpty:=by
 cases r<;>simp
theorem kZ:(sizeLine:Nat)<2^63:=by rw [sizeLine_eq];decide
theorem Fj:Mo X (fun x H Q=>∃k,Cn X.K x H k/\Q k H):=by
 intro pins s σ H x v Q I rx h
 obtain ⟨k,e,q⟩:=h
 have hl:=kZ
 have hs:sizeLine=16777216:=sizeLine_eq
 cases x with
 | non =>
   cases rx
   have e':k=false:=e
   subst e'
   exact truthy_none ⟨H,I,q⟩
 | bl b =>
   cases rx
   have e':k=b:=e
   subst e'
   exact tqp ⟨H,I,q⟩
 | int i =>
   obtain ⟨t,rfl⟩:=rx
   have e':k=(i != 0):=e
   subst e'
   exact PySem.P.truthy_int ⟨H,I,q⟩
 | str y =>
   obtain ⟨t,rfl⟩:=rx
   obtain ⟨hy,e'⟩:y.length<=sizeLine/\k=((y.length:Int) != 0):=e
   subst e'
   exact PySem.P.truthy_str (by omega) ⟨H,I.tok _,q⟩
 | byt y =>
   obtain ⟨t,rfl⟩:=rx
   obtain ⟨hy,e'⟩:y.size<=sizeLine/\k=((y.size:Int) != 0):=e
   subst e'
   exact PySem.W.truthy_bytes (by omega) ⟨H,I.tok _,q⟩
 | ref p =>
   cases rx
   have e':(∃xs,dq X.K H p xs/\k=!xs.isEmpty)\/(∃xs,eD X.K H p xs/\k=!xs.isEmpty)\/∃kvs,H p=some (.dK kvs)/\k=!kvs.isEmpty:=e
   rcases e' with ⟨xs,hx,e'⟩|⟨xs,hx,e'⟩|⟨kvs,hx,e'⟩
   ·subst e'
    obtain ⟨its,r,pl,hz⟩:=I.list hx
    have hlen:=r.length
    exact wpAny_truthy_list pl.isList (by simp only [List.size_toArray];omega) ⟨H,I.tok _,by rw [qK r];exact q⟩
   ·subst e'
    obtain ⟨its,r,pl,hz⟩:=I.tuple hx
    have hlen:=r.length
    exact truthy_tuple pl (by simp only [List.size_toArray];omega) ⟨H,I.tok _,by rw [qK r];exact q⟩
   ·subst e'
    obtain ⟨hz,hS,vs,r,m⟩:kvs.length<=sizeLine/\(p==sysModules)=false/\∃vs,KV kvs vs/\s.heap.DictOf (ma X.prog X.w) p vs:=I.hok p _ hx
    have hlen:kvs.length=vs.length:=Paired.length r
    exact wpAny_truthy_dict hS m (by omega) ⟨H,I.tok _,by rw [ya r];exact q⟩
 |_=>exact (show False from e).elim
theorem Bg (ha:PE X a ta)(he:∀whole,isTrue a X.env whole=(do let v <- whole;standAt a.pos;holding [v] (truthy v))) :
 PT X a (fun σ H Q=>ta σ H fun x H'=>∃k,Cn X.K x H' k/\Q k H'):=by
 intro pins s σ H Q I h
 exact isTrue_plain (bx (ha pins s σ H _ I h) fun v s1 ⟨x,H1,I1,r1,q1⟩=>Fj pins s1 σ H1 x v Q I1 r1 q1) (he _)
theorem xq:cu X (binaryOp .Add) (fun x y H Q=>∃i j,x=.str i/\y=.str j/\i.length+j.length<=sizeLine/\Q (.str (i++j)) H):=by
 intro pins s σ H x y v u Q I rx ry h
 obtain ⟨i,j,rfl,rfl,hz,q⟩:=h
 obtain ⟨t,rfl⟩:=rx
 obtain ⟨t',rfl⟩:=ry
 exact add_str (fun t' tk=>⟨.str (i++j),H,I.tok _,⟨_,rfl⟩,q⟩) hz
theorem vals1 {x:V}{us:List Value}(r:Vals [x] us):∃u,us=[u]/\RelV x u:=by
 cases r with
 |cons r1 r2=>cases r2;exact ⟨_,rfl,r1⟩
theorem vals2 {x y:V}{us:List Value}(r:Vals [x,y] us):∃u w',us=[u,w']/\RelV x u/\RelV y w':=by
 cases r with
 | cons r1 r2 =>
   cases r2 with
   |cons r3 r4=>cases r4;exact ⟨_,_,rfl,r1,r3⟩
end
end L2
namespace L2
open PySem PySem.Spec PyProof.Rows
structure Cq (h:Heap) (x dx C:Addr) (mA:Str->Option Value):Prop where
 obj:h.get? x=some (PySem.W.instObj C dx)
 ns:h.Ns1 dx mA
 ne:dx≠x
theorem sR {h:Heap}{dx:Addr}{mA:Str->Option Value}(n:h.Ns1 dx mA):∃od,h.get? dx=some od/\∀name,PySem.W.lookIn name od=some (mA name):=by
 obtain ⟨o,es,ep,ho,hd,hk,_,hm⟩:=n
 refine ⟨o,ho,fun name=>?_⟩
 have e:=hm name
 unfold nsFind findBy at e
 rw [<- Array.find?_toList] at e
 unfold PySem.W.lookIn
 rw [hd]
 dsimp only
 split
 ·rename_i y q
  rw [q] at e
  exact congrArg some e
 ·rename_i q
  rw [q] at e
  have a:es.toList.any (·.refKey)=false:=by
   rw [List.any_eq_false]
   intro y hy
   obtain ⟨z,t,hkey⟩:=hk y (Array.mem_toList_iff.mp hy)
   simp [DictEntry.refKey,hkey]
  have a':¬ es.toList.any (·.refKey)=true:=by rw [a];exact tqj
  rw [if_neg a']
  exact congrArg some e
theorem Cq.look {h:Heap}{x dx C:Addr}{mA:Str->Option Value}(I:Cq h x dx C mA):∃od,PySem.W.InstAt h x (PySem.W.instObj C dx) C (some od)/\∀name,PySem.W.lookIn name od=some (mA name):=
 let ⟨od,ho,hl⟩:=sR I.ns
 ⟨od,⟨I.obj,rfl,rfl,ho⟩,hl⟩
theorem sm.some_of {v:V}{o:Option Value}(r:sm (some v) o):∃u,o=some u/\RelV v u:=by
 cases o with
 |none=>exact (show False from r).elim
 |some u=>exact ⟨u,rfl,r⟩
section
variable {P:Program}{w:World}{H H':Hp}{h h':Heap}{a C dx:Addr}{fs fs':List (Str×V)}
theorem Es (hok:ft P w H h)(e:H a=some (.ins C dx fs)):∃mA,Cq h a dx C mA/\(∀f,sm (fs.lookup f) (mA f))/\PySem.Within mA (fs.map (·.1))/\fs.length<=1000/\H dx=some (.own a):=by
 obtain ⟨d,z,ne,ob,mA,n,r,q⟩:=(show dz P w H h a (.ins C dx fs) from hok a _ e)
 exact ⟨mA,⟨ob,n,ne⟩,r,q,z,d⟩
end
structure IL (K:PySem.W.Frag) (C:Addr):Prop where
 pg:PySem.W.plainGet K C Str.empty=true
 hd:PySem.W.hasDictIn K C=true
 po:PySem.W.plainOver K C=true
 sa:PySem.W.findIn K (.ref C) "__setattr__"=some (some (.builtin "object.__setattr__"))
theorem IL.get {K:PySem.W.Frag}{C:Addr}(c:IL K C)(f:Str):PySem.W.plainGet K C f=true:=c.pg
section
variable {X:Cx}{pins:List (Addr×Obj)}{σ:St}{H:Hp}{s:Shared}{a C dx:Addr}{fs:List (Str×V)}{f:Str}{v:V}{A:Around}{E:Value->Shared->Prop}
theorem E4 {prog:Program}{w:World}{env:Env}{e:Expr}{f:Str}{pos:Pos}{s:Shared}{Q:Value->Shared->Prop}(hb:attributeBase e f env (eval e env)=eval e env)
 (h:wpAny (model prog w) A (eval e env) (fun o s₁=>wpAny (model prog w) A (getAttr o f true) Q E s₁) E s):wpAny (model prog w) A (eval (.Attribute e f pos) env) Q E s:=
 Attribute_any_ h (by rw [arm_eval_Attribute,hb])
end
section
variable {X:Cx}{pins:List (Addr×Obj)}{σ:St}{H:Hp}{s:Shared}{A:Around}{E:Value->Shared->Prop}{Q:Value->Shared->Prop}{c:Value}{b:Bool}
inductive j9 (K:PySem.W.Frag) (H:Hp):V->Value->Prop where
 |non:j9 K H .non (.type "NoneType")
 |bl (x:Bool):j9 K H (.bl x) (.type "bool")
 |int (i:Int):j9 K H (.int i) (.type "int")
 |str (x:Str):j9 K H (.str x) (.type "str")
 |flt (x:UInt64):j9 K H (.flt x) (.type "float")
 |lst {a:Addr}{xs:List V} (e:H a=some (.lst xs)):j9 K H (.ref a) (.type "list")
 |frz {a:Addr}{o:Obj}{xs:List V} (e:H a=some (.frz o (.lst xs))):j9 K H (.ref a) (.type "list")
 |tup {a:Addr}{xs:List V} (e:H a=some (.tup xs)):j9 K H (.ref a) (.type "tuple")
 |dK {a:Addr}{kvs:List (Key×V)} (e:H a=some (.dK kvs)):j9 K H (.ref a) (.type "dict")
 |dT {a:Addr}{kvs:List (List Key×V)} (e:H a=some (.dT kvs)):j9 K H (.ref a) (.type "dict")
 |ins {a C dx:Addr}{fs:List (Str×V)} (e:H a=some (.ins C dx fs)) (cl:IL K C) (ha:PySem.W.findIn K (.ref C) "__class__"=some (some (.builtin "object.__class__")))
  (hn:PySem.W.specialIn K (.builtin "object.__class__") "__get__"=some (some (.builtin "getset_descriptor.__get__"))) (htk:PySem.W.takesIn K (.builtin "object.__class__")=some true)
  (hm:PySem.W.mroIn K C (.type "object")=some true):j9 K H (.ref a) (.ref C)
theorem lF {x:V}{u t:Value}(I:Inv X pins σ H s)(rx:RelV x u)(ty:j9 X.K H x t)(e:PySem.W.kitOne X.K t c=some b)(h:∀tk,Q (.bool b) {s with toks:=tk}) :
 wpAny (model X.prog X.w) A (call (.builtin "isinstance") [u,c]) Q E s:=by
 cases ty with
 |non=>cases (show u=Value.none from rx);exact PySem.W.kia_one PySem.W.kitx_none I.kIn True.intro e (fun z=>nomatch z) h
 |bl y=>cases (show u=Value.bool y from rx);exact PySem.W.kia_one PySem.W.kitx_bool I.kIn True.intro e (fun z=>nomatch z) h
 |int i=>obtain ⟨t,q⟩:=(show ∃t,u=Value.int i t from rx);cases q;exact PySem.W.kia_one PySem.W.kitx_int I.kIn True.intro e (fun z=>nomatch z) h
 |str y=>obtain ⟨t,q⟩:=(show ∃t,u=Value.str y t from rx);cases q;exact PySem.W.kia_one PySem.W.kitx_str I.kIn True.intro e (fun z=>nomatch z) h
 |flt y=>obtain ⟨t,q⟩:=(show ∃t,u=Value.float y t from rx);cases q;exact PySem.W.kia_one PySem.W.kitx_float I.kIn True.intro e (fun z=>nomatch z) h
 | @lst a xs ea =>
   cases (show u=Value.ref a from rx)
   obtain ⟨_,_,n,_,h1⟩:=(show dz X.prog X.w H s.heap a (.lst xs) from I.hok a _ ea)
   exact PySem.W.kia_one PySem.W.kitx_list I.kIn ⟨_,h1,rfl⟩ e (fun z=>nomatch z) h
 | @frz a ob xs ea =>
   cases (show u=Value.ref a from rx)
   obtain ⟨_,_,_,n,_,h1⟩:=(show dz X.prog X.w H s.heap a (.frz ob (.lst xs)) from I.hok a _ ea)
   exact PySem.W.kia_one PySem.W.kitx_list I.kIn ⟨_,h1,rfl⟩ e (fun z=>nomatch z) h
 | @tup a xs ea =>
   cases (show u=Value.ref a from rx)
   obtain ⟨_,_,_,p⟩:=(show dz X.prog X.w H s.heap a (.tup xs) from I.hok a _ ea)
   obtain ⟨o,h1,h2,_⟩:=p
   exact PySem.W.kia_one PySem.W.kitx_tuple I.kIn ⟨o,h1,h2⟩ e (fun z=>nomatch z) h
 | @dK a kvs ea =>
   cases (show u=Value.ref a from rx)
   obtain ⟨_,_,vs,_,p⟩:=(show dz X.prog X.w H s.heap a (.dK kvs) from I.hok a _ ea)
   obtain ⟨o,es,ep,h1,h2,_⟩:=p
   exact PySem.W.kia_one PySem.W.kitx_dict I.kIn ⟨o,h1,h2.1⟩ e (fun z=>nomatch z) h
 | @dT a kvs ea =>
   cases (show u=Value.ref a from rx)
   obtain ⟨_,_,xs,_,o,es,ep,h1,h2,_⟩:=(show dz X.prog X.w H s.heap a (.dT kvs) from I.hok a _ ea)
   exact PySem.W.kia_one PySem.W.kitx_dict I.kIn ⟨o,h1,h2.1⟩ e (fun z=>nomatch z) h
 | @ins a C dx fs ea cl ha hn htk hm =>
   cases (show u=Value.ref a from rx)
   obtain ⟨mA,O,_⟩:=Es I.hok ea
   obtain ⟨od,J,_⟩:=O.look
   exact PySem.W.kia_one (PySem.W.kitx_own (cl.get _) cl.hd ha hn htk hm) I.kIn J e (fun z=>nomatch z) h
end
end L2
namespace L2
open PySem PySem.Spec PyProof.Rows
structure cC (k:Nat) (A:Around):Prop where
 hd:A.handled=none
 dp:A.depth+3*k+5<recursionLimit
 un:A.units+16*k+200<cLine
 gd:A.guards=some []
theorem cC.mono {j k:Nat}{A:Around}(r:cC k A)(h:j<=k):cC j A:=⟨r.hd,by have:=r.dp;omega,by have:=r.un;omega,r.gd⟩
theorem cC.deeper {k:Nat}{A:Around}(r:cC (k+1) A)(env:Env):cC k (A.deeper env):=
 ⟨r.hd,by have:=r.dp;show A.depth+1+3*k+5<_;omega,by have:=r.un;show A.units+3+16*k+200<_;omega,r.gd⟩
theorem xN {A:Around}{C:Addr}{us:List Value}{kw:List (Str×Value)}:(A.under (.builtin "type.__call__" ⟨.ref C::us,kw⟩)).depth=A.depth+1:=by
 first|rfl|simp [Around.under,Code.weight,Code.isCreation,Code.isGuard,Code.isCaller,Code.frames,Code.isFrame,guardIds]
theorem xM {A:Around}{C:Addr}{us:List Value}{kw:List (Str×Value)}:(A.under (.builtin "type.__call__" ⟨.ref C::us,kw⟩)).units=A.units+1:=by
 first|rfl|simp [Around.under,Code.cUnits,Code.frames,Code.isFrame]
theorem cC.make {k:Nat}{A:Around}(r:cC (k+1) A)(C:Addr)(us:List Value)(kw:List (Str×Value)):cC k (A.under (.builtin "type.__call__" ⟨.ref C::us,kw⟩)):=
 ⟨r.hd,by have:=r.dp;rw [xN];omega,by have:=r.un;rw [xM];omega,r.gd⟩
theorem cC.depth {k:Nat}{A:Around}(r:cC k A):A.depth<recursionLimit:=by have:=r.dp;omega
theorem cC.units {k:Nat}{A:Around}(r:cC k A):A.units+64<cLine:=by have:=r.un;omega
def KR:TA:=fun _ H Q=>Q [] H
def IY (ta:TE)(tr:TA):TA:=fun σ H Q=>ta σ H fun x H1=>tr σ H1 fun xs H2=>Q (x::xs) H2
section
variable {X:Cx}{e:Expr}{es:List Expr}{te:TE}{t:TA}{pos:Pos}
theorem fb:PA X [] KR:=fun _ _ _ _ H Q I h=>Calls.spliced_nil ⟨[],H,I,.nil,h⟩
theorem cN (ha:PE X e te)(hr:PA X es t)(hs:starEach (e::es) X.env=(false,eval e X.env)::starEach es X.env:=by rfl):PA X (e::es) (IY te t):=by
 intro pos pins s σ H Q I h
 rw [hs]
 show wpAny _ _ (spliced ((false,eval e X.env)::backTo pos (starEach es X.env))) _ _ s
 refine Calls.spliced_cons (bx (ha pins s σ H _ I h) fun u s1 ⟨x,H1,I1,r1,q1⟩=>?_)
 exact bx (hr pos pins s1 σ H1 _ I1 q1) fun us s2 ⟨xs,H2,I2,r2,q2⟩=>⟨x::xs,H2,I2,.cons r1 r2,q2⟩
def KO (t:TA):TE:=fun σ H Q=>t σ H fun xs H1=>xs.length<=sizeLine/\∀p,H1 p=none->Q (.ref p) (upd H1 p (.tup xs))
def KS (t:TA):TE:=fun σ H Q=>t σ H fun xs H1=>xs.length<=sizeLine/\∀p,H1 p=none->Q (.ref p) (upd H1 p (.lst xs))
theorem Gh {x1}(h:PA X es t):PE X (.Tuple es x1 pos) (KO t):=by
 intro pins s σ H Q I hq
 refine wpAny_Tuple_spliced (bx (h pos pins s σ H _ I hq) fun us s1 ⟨xs,H1,I1,r,z,q⟩=>⟨by rw [<- r.length];exact z,?_⟩)
 have hf:H1 s1.heap.objs.size=none:=I1.hok.fresh (tqg _)
 refine ⟨.ref s1.heap.objs.size,upd H1 s1.heap.objs.size (.tup xs),I1.laid (t':=s1.toks) (fun b u e=>tqc _ e) (tqg _) ?_,rfl,q _ hf⟩
 exact ⟨z,us,r,⟨_,tqe _ rfl,rfl,_,rfl⟩⟩
theorem Gp (h:PA X es t):PE X (.List es pos) (KS t):=by
 intro pins s σ H Q I hq
 refine wpAny_List_spliced (bx (h pos pins s σ H _ I hq) fun us s1 ⟨xs,H1,I1,r,z,q⟩=>⟨by rw [<- r.length];exact z,?_⟩)
 have hf:H1 s1.heap.objs.size=none:=I1.hok.fresh (tqg _)
 refine ⟨.ref s1.heap.objs.size,upd H1 s1.heap.objs.size (.lst xs),I1.laid (t':=s1.toks) (fun b u e=>tqc _ e) (tqg _) ?_,rfl,q _ hf⟩
 exact ⟨z,us,0,r,tqe _ rfl⟩
end
abbrev Sp:=List V->Hp->VK->XK->Prop
abbrev pf:=List Env->Hp->Shared->XK->Value->Shared->Prop
structure pW (P:Program) (w:World) (K:PySem.W.Frag) (mg:Str->Option Value) (base:Heap) (A:Around) (outer:List Env) (s:Shared) (H:Hp):Prop where
 frames:A.frames=some outer
 mod:Mod K mg base
 bs:∀b o,base.get? b=some o->s.heap.get? b=some o/\H b=none
 bsz:base.objs.size<=s.heap.objs.size
 funs:s.heap.FunFrames base outer
 frf:∀b∈gK outer,H b=none
 hok:ft P w H s.heap
 bare:AllBare s.gens
def CE (outer:List Env)(P:Program)(w:World)(H:Hp)(s:Shared)(Q:VK)(u:Value)(s':Shared):Prop:=
 ∃v H',s'.os=s.os/\AllBare s'.gens/\Un (gK outer) [] H H' s.heap s'.heap/\ft P w H' s'.heap/\RelV v u/\Q v H'
def CR (CX:pf)(outer:List Env)(P:Program)(w:World)(H:Hp)(s:Shared)(Q:VK)(E:XK)(r:Result)(s':Shared):Prop:=
 match r with
 |.ok (.ret u)=>CE outer P w H s Q u s'
 |.ok _=>False
 |.error e=>CX outer H s E e s'
structure lV (P:Program) (w:World) (K:PySem.W.Frag) (mg:Str->Option Value) (base:Heap) (CX:pf) (k:Nat) (f:Addr) (fd:FuncData) (ps:List Str) (sp:Sp):Prop where
 len:∀vs H Q E,sp vs H Q E->vs.length=ps.length
 run:∀(A:Around) (outer:List Env) (s:Shared) (H:Hp) (args:Args) (us:List Value) (vs:List V) (Q:VK) (E:XK),cC k A->pW P w K mg base A outer s H->BindsTo s fd args (ps.zip us)->Vals vs us->sp vs H Q E->
  codeAny (model P w) A (.call (.ref f) args) (CR CX outer P w H s Q E) s
theorem pW.make {P:Program}{w:World}{K:PySem.W.Frag}{mg:Str->Option Value}{base:Heap}{A:Around}{outer:List Env}{s:Shared}{H:Hp}(e:pW P w K mg base A outer s H)(C:Addr)(us:List Value)(kw:List (Str×Value)) :
 pW P w K mg base (A.under (.builtin "type.__call__" ⟨.ref C::us,kw⟩)) outer s H:=⟨by first|exact e.frames|(simpa [Around.under,Code.envs,Code.isFrame,pushEnvs] using e.frames),e.mod,e.bs,e.bsz,e.funs,e.frf,e.hok,e.bare⟩
section
variable {X:Cx}{pins:List (Addr×Obj)}{σ:St}{H:Hp}{s s':Shared}
theorem Inv.env0 (I:Inv X pins σ H s):pW X.prog X.w X.K X.mg X.base X.A X.stack s H:=
 ⟨I.ok.frames,I.ok.mod,I.bs,tqh I.ok.bsz I.sz,I.stack,I.stkFree,I.hok,I.bare⟩
theorem Inv.after {Q:VK}{u:Value}(I:Inv X pins σ H s)(h:CE X.stack X.prog X.w H s Q u s'):EP X pins σ Q u s':=by
 obtain ⟨v,H',os,bare,un,hok,r,q⟩:=h
 obtain ⟨hh,g,d,t,os'⟩:=s'
 obtain rfl:os'=s.os:=os
 exact ⟨v,H',I.call (h':=hh) (g':=g) (d':=d) (t':=t) (ch:=[]) un hok bare (fun b z=>absurd z (by simp)),r,q⟩
end
def CB (sp:Sp)(dvs:List V)(E:XK)(t:TA):TE:=fun σ H Q=>t σ H fun vs H1=>sp (vs++dvs) H1 Q E
def Binds (K:PySem.W.Frag)(fd:FuncData)(ps:List Str)(ds:List Value):Prop:=
 ∀(s:Shared) (us:List Value),K.In s.heap->(us++ds).length=ps.length->BindsTo s fd ⟨us,[]⟩ (ps.zip (us++ds))
theorem Binds.all {K:PySem.W.Frag}{fd:FuncData}{ps:List Str}(h:∀us:List Value,us.length=ps.length->bindArgs fd ⟨us,[]⟩=pure (ps.zip us)):Binds K fd ps []:=fun s us _ hl=>by
 rw [List.append_nil] at hl ⊢
 exact .of_eq (h us hl)
def Passes (CX:pf)(X:Cx)(E:XK):Prop:=∀(pins:List (Addr×Obj)) (σ:St) (H:Hp) (s:Shared) (e:Value) (s':Shared),Inv X pins σ H s->CX X.stack H s E e s'->X.xe e s'
section
variable {X:Cx}{CX:pf}{k:Nat}{f C:Addr}{fd:FuncData}{ps:List Str}{sp:Sp}{dvs:List V}{ds:List Value}{E:XK}{x m:Str}{p pos apos:Pos}{e o:Expr}{es:List Expr}{ta:TE}{t:TA}
theorem zd {pins:List (Addr×Obj)}{σ:St}{H:Hp}{s:Shared}{Q:VK}{us:List Value}{vs:List V}(F:lV X.prog X.w X.K X.mg X.base CX k f fd ps sp)(hr:cC k X.A)(hb:Binds X.K fd ps ds)(hd:Vals dvs ds)(hx:Passes CX X E)
 (I:Inv X pins σ H s) (r:Vals vs us) (h:sp (vs++dvs) H Q E):wpAny (model X.prog X.w) X.A (call (.ref f) us) (EP X pins σ Q) X.xe s:=by
 have r2:Vals (vs++dvs) (us++ds):=r.append hd
 have hl:(us++ds).length=ps.length:=by rw [<- r2.length];exact F.len _ _ _ _ h
 refine wpAny_call (codeAny_mono (F.run X.A X.stack s H ⟨us,[]⟩ (us++ds) (vs++dvs) Q E hr I.env0 (hb s us I.kIn hl) r2 h) fun r s' hq=>?_)
 cases r with
 |error e=>exact hx pins σ H s e s' I hq
 | ok fl =>
   cases fl with
   |ret u=>exact I.after hq
   |next=>exact False.elim hq
   |brk=>exact False.elim hq
   |cont=>exact False.elim hq
theorem D9 (F:lV X.prog X.w X.K X.mg X.base CX k f fd ps sp)(hr:cC k X.A)(hg:Gl X x)(hm:X.mg x=some (.ref f))(hk:PySem.W.keepIn X.K (.ref f)=true)(hb:Binds X.K fd ps ds)(hd:Vals dvs ds)(hx:Passes CX X E)
 (ha:PA X (e::es) t) (hdb:(x==("__debug__":Str))=false:=by decide) (he:starEach (e::es) X.env=(false,eval e X.env)::starEach es X.env:=by rfl) (hpl:(backTo pos (starEach es X.env)).any (·.1)=false:=by rfl) :
 PE X (.Call (.Name x p) (e::es) [] pos) (CB sp dvs E t):=by
 intro pins s σ H Q I h
 refine wpAny_Call_Name_kw (jx I hg hm ?_ hdb)
 refine PySem.W.callWith_K (h₀:=X.base) I.ok.mod.kin hk (bx (ha pos pins s σ H _ I h) fun us s1 ⟨vs,H1,I1,r,q⟩=>⟨I1.kIn,?_⟩) he hpl
 exact zd F hr hb hd hx I1 r q
end
structure hV (N P:List Str) (sc:Scope):Prop where
 kind:sc.kind=.function
 co:sc.isCoroutine=false
 gen:sc.isGenerator=false
 nd:N.Nodup
 pre:N.take P.length=P
 par:∀x∈P,sc.names.lookup x=some .local\/sc.names.lookup x=some .cell
 nofree:∀y∈sc.names,y.2≠.free
theorem tj {kindOf:Str->Option NameKind}{x:Str}:∀{binds:List (Str×Value)}{m:Str->Option Value},(∀v,(x,v)∉binds)->bindL kindOf binds m x=m x
 |[],_,_=>rfl
 | (n, v) :: r, m, h => by
   unfold bindL
   rw [tj fun w hw=>h w (List.mem_cons_of_mem _ hw)]
   split
   ·have:x≠n:=by rintro rfl;exact h v List.mem_cons_self
    simp [this]
   ·rfl
theorem tq {kindOf:Str->Option NameKind}{x:Str}:∀{binds:List (Str×Value)}{m:Str->Option Value},(∀v,(x,v)∉binds)->bindC kindOf binds m x=m x
 |[],_,_=>rfl
 | (n, v) :: r, m, h => by
   unfold bindC
   rw [tq fun w hw=>h w (List.mem_cons_of_mem _ hw)]
   split
   ·rfl
   ·have:x≠n:=by rintro rfl;exact h v List.mem_cons_self
    simp [this]
theorem tm {kindOf:Str->Option NameKind}{x:Str}{v:Value}:∀{P:List Str}{vs:List Value}{i:Nat}{m:Str->Option Value},P.Nodup->P[i]?=some x->vs[i]?=some v->kindOf x=some .local->
 bindL kindOf (P.zip vs) m x=some v
 |[],_,_,_,_,h,_,_=>by simp at h
 |_::_,[],_,_,_,_,h,_=>by simp at h
 | p :: P, w :: vs, 0, m, nd, h1, h2, hk => by
   simp at h1 h2;subst h1;subst h2
   show bindL kindOf ((p,w)::P.zip vs) m p=_
   unfold bindL
   rw [tj fun v hv=>(List.nodup_cons.mp nd).1 (List.of_mem_zip hv).1,if_pos hk]
   simp
 | p :: P, w :: vs, i + 1, m, nd, h1, h2, hk => by
   show bindL kindOf ((p,w)::P.zip vs) m x=_
   unfold bindL
   exact tm (i:=i) (List.nodup_cons.mp nd).2 (by simpa using h1) (by simpa using h2) hk
theorem tu {kindOf:Str->Option NameKind}{x:Str}{v:Value}:∀{P:List Str}{vs:List Value}{i:Nat}{m:Str->Option Value},P.Nodup->P[i]?=some x->vs[i]?=some v->kindOf x≠some .local->
 bindC kindOf (P.zip vs) m x=some v
 |[],_,_,_,_,h,_,_=>by simp at h
 |_::_,[],_,_,_,_,h,_=>by simp at h
 | p :: P, w :: vs, 0, m, nd, h1, h2, hk => by
   simp at h1 h2;subst h1;subst h2
   show bindC kindOf ((p,w)::P.zip vs) m p=_
   unfold bindC
   rw [tq fun v hv=>(List.nodup_cons.mp nd).1 (List.of_mem_zip hv).1,if_neg hk]
   simp
 | p :: P, w :: vs, i + 1, m, nd, h1, h2, hk => by
   show bindC kindOf ((p,w)::P.zip vs) m x=_
   unfold bindC
   exact tu (i:=i) (List.nodup_cons.mp nd).2 (by simpa using h1) (by simpa using h2) hk
def start (N:List Str)(vs:List V):St:=vs.map some++List.replicate (N.length-vs.length) none
def gx (CX:pf)(P:Program)(w:World)(K:PySem.W.Frag)(mg:Str->Option Value)(base:Heap)(N:List Str)(qual:Str)(scope:Scope)(f:Addr)(cd:Value)(A:Around)(outer:List Env)(s:Shared)(H:Hp)(E:XK):Cx where
 prog:=P
 w:=w
 K:=K
 mg:=mg
 base:=base
 A:=A.deeper (envOfC qual scope s.heap.objs.size f cd)
 N:=N
 s₀:=s
 H₀:=H
 env:=envOfC qual scope s.heap.objs.size f cd
 outer:=outer
 stack:=envOfC qual scope s.heap.objs.size f cd::outer
 ex:=[]
 calm:=true
 fn:=fun _=>true
 pn:=[]
 xe:=fun e s'=>wpAny (model P w) (A.deeper (envOfC qual scope s.heap.objs.size f cd)) (leaving (envOfC qual scope s.heap.objs.size f cd) e) (fun _ s''=>CX outer H s E e s'') (fun e' s''=>CX outer H s E e' s'') s'
theorem vv {sc:Scope}{n:Nat}{x:Str}(h:sc.names.lookup x=some .cell):∃c,(cellsFrom n sc.names []).lookup x=some c:=by
 have q:=PySem.W.cellsFrom_some sc.names n [] (.inl h)
 exact Option.isSome_iff_exists.mp q
theorem zO {CX:pf}{P:Program}{w:World}{K:PySem.W.Frag}{mg:Str->Option Value}{base:Heap}{N ps:List Str}{qual:Str}{scope:Scope}{f:Addr}{cd:Value}{A:Around}{outer:List Env}{s s1:Shared}{H:Hp}{E:XK}{us:List Value}{vs:List V}
 (S:hV N ps scope) (hd:A.handled=none) (e0:pW P w K mg base A outer s H) (hl:vs.length=ps.length) (r:Vals vs us)
 (x:InCallC s s.heap.objs.size (bindL (envOfC qual scope s.heap.objs.size f cd).kindOf (ps.zip us) fun _=>none) (cellsFrom (s.heap.objs.size+1) scope.names []) (bindC (envOfC qual scope s.heap.objs.size f cd).kindOf (ps.zip us) fun _=>none) s1) :
 Inv (gx CX P w K mg base N qual scope f cd A outer s H E) [] (start N vs) H s1:=by
 have hpl:ps.length<=N.length:=by have:=congrArg List.length S.pre;rw [List.length_take] at this;omega
 obtain ⟨h1,tk,rfl,hk⟩:=x.done
 have noA:∀b:Addr,b∉(gx CX P w K mg base N qual scope f cd A outer s H E).ex:=fun b z=>absurd (show b∈([]:List Addr) from z) (by simp)
 refine ⟨⟨e0.mod,S.kind,rfl,rfl,tqg _,fun y z c h1 h2=>?_,fun y hy=>?_,fun y c _ h=>?_,fun _=>hd,Around.frames_deeper e0.frames,.inr ⟨rfl,rfl⟩,fun b z=>absurd z (noA b),e0.bs,e0.bsz,fun b _ _=>noA b,fun b z=>absurd z (noA b),e0.funs,e0.frf⟩,
  rfl,e0.bare,Un.kept hk,⟨_,x.toInCall.ns,fun i y v h1 h2 h3=>?_⟩,fun y c h=>⟨_,x.cell y c h⟩,e0.hok.fresh (tqg _),fun y c h=>?_,fun p hp=>absurd (show p∈([]:List (Addr×Obj)) from hp) (by simp),e0.hok.kept hk,?_⟩
 ·exact name_of_addr x.apart (PySem.mem_of_lookup h1) (PySem.mem_of_lookup h2)
 ·have hy:scope.names.lookup y=some .cell\/scope.names.lookup y=some .free:=hy
  rcases hy with hy|hy
  ·exact vv hy
  ·exact absurd rfl (S.nofree _ (PySem.mem_of_lookup hy))
 ·exact Nat.le_of_lt (x.above y c (PySem.mem_of_lookup h))
 ·have hi:i<vs.length:=by
   unfold start at h2
   by_cases hi:i<vs.length
   ·exact hi
   ·rw [List.getElem?_append_right (by simpa using hi)] at h2
    rw [List.getElem?_replicate] at h2
    split at h2<;>cases h2
  have ha:vs[i]?=some v:=by
   unfold start at h2
   rw [List.getElem?_append_left (by simpa using hi),List.getElem?_map] at h2
   cases e:vs[i]? with
   |none=>rw [e] at h2;cases h2
   |some a=>rw [e] at h2;cases h2;rfl
  obtain ⟨u,hu,rv⟩:=r.get ha
  have hp:ps[i]?=some y:=by
   rw [<- S.pre,List.getElem?_take_of_lt (by omega)];exact h1
  have ndP:ps.Nodup:=by rw [<- S.pre];exact S.nd.sublist (List.take_sublist _ _)
  refine ⟨u,rv,?_⟩
  rcases S.par y (List.mem_of_getElem? hp) with k|k
  ·exact .inl ⟨k,tm ndP hp hu k⟩
  ·obtain ⟨c,e⟩:=vv (n:=s.heap.objs.size+1) k
   refine .inr ⟨.inl k,c,e,?_⟩
   have q:=x.cell y c e
   rw [tu ndP hp hu (by show scope.names.lookup y≠_;rw [k];decide)] at q
   exact q
 ·exact e0.hok.fresh (Nat.le_of_lt (x.above y c (PySem.mem_of_lookup h)))
 ·unfold start
  show _=N.length
  rw [List.length_append,List.length_map,List.length_replicate]
  omega
theorem JE {CX:pf}{P:Program}{w:World}{K:PySem.W.Frag}{mg:Str->Option Value}{base:Heap}{k:Nat}{f:Addr}{name qual:Str}{params:Arguments}{body:List Stmt}{scope:Scope}{dV kV doc pm cdv ct oc:Value}{an od:Option Addr}
 {osl:Array (Option Value)}{N ps:List Str}{sp:Sp} (lk:K.lookup f=some ⟨oc,od,.func (PySem.W.fnOf name qual params body scope dV kV doc pm an cdv ct),osl⟩) (hcd:PySem.W.codeIn K cdv qual=true) (S:hV N ps scope)
 (len:∀vs H Q E,sp vs H Q E->vs.length=ps.length)
 (hbody:∀(A:Around) (outer:List Env) (s:Shared) (H:Hp) (vs:List V) (Q:VK) (E:XK),cC k (A.deeper (envOfC qual scope s.heap.objs.size f cdv))->sp vs H Q E->
  ∃t,n8 (gx CX P w K mg base N qual scope f cdv A outer s H E) body t/\t {nx:=fun _ H'=>Q .non H',rt:=Q} (start N vs) H) :
 lV P w K mg base CX (k+1) f (PySem.W.fnOf name qual params body scope dV kV doc pm an cdv ct) ps sp:=by
 refine ⟨len,fun A outer s H args us vs Q E hr e0 hb r hsp=>?_⟩
 have hl:=len _ _ _ _ hsp
 have KX:K.In s.heap:=e0.mod.kin.keeps fun b o e=>(e0.bs b o e).1
 have lim:s.heap.NoLimit:=e0.mod.nolimit.keeps fun b o e=>(e0.bs b o e).1
 have hkind:∀y∈ps.zip us,scope.names.lookup y.1=some .local\/(scope.names.lookup y.1=some .cell/\((cellsFrom (s.heap.objs.size+1) scope.names []).lookup y.1).isSome=true):=fun ⟨n,v⟩ hy=>by
  rcases S.par n (List.of_mem_zip hy).1 with q|q
  ·exact .inl q
  ·exact .inr ⟨q,PySem.W.cellsFrom_some _ _ _ (.inl q)⟩
 refine codeAny_call_function hr.depth (KX _ _ lk) rfl S.co S.gen rfl (PySem.W.codeRec_of KX hcd) (hb _ _ _ _ ?_)
 refine wpAny_newFunctionEnv_cells S.kind hkind fun env he s1 x=>?_
 subst he
 refine ⟨lim.keeps x.toInCall.keep,codeAny_func ?_⟩
 obtain ⟨t,ht,hq⟩:=hbody A outer s H vs Q E (hr.deeper _) hsp
 have I:Inv (gx CX P w K mg base N qual scope f cdv A outer s H E) [] (start N vs) H s1:=zO S hr.hd e0 hl r x
 refine wpAny_mono (ht [] s1 (start N vs) H _ I hq) (fun fl s' hs=>?_) fun e s' hs=>hs
 have fin:∀{σ':St}{H':Hp}{v:V}{u:Value},Inv (gx CX P w K mg base N qual scope f cdv A outer s H E) [] σ' H' s'->RelV v u->Q v H'->CE outer P w H s Q u s':=
  fun {σ' H' v u} J rv q=>⟨v,H',J.os,J.bare,J.base,J.hok,rv,q⟩
 cases fl with
 | ret u =>
   obtain ⟨v,σ',H',J,rv,q⟩:=hs
   exact fin J rv q
 | next =>
   obtain ⟨σ',H',J,q⟩:=hs
   exact fin (v:=V.non) (u:=Value.none) J rfl q
 | brk =>
   obtain ⟨_,_,_,q⟩:=hs
   exact False.elim q
 | cont =>
   obtain ⟨_,_,_,q⟩:=hs
   exact False.elim q
end L2
namespace L2
open PySem PySem.Spec PyProof.Rows
section
variable {X:Cx}{x:Str}{p pos:Pos}{e:Expr}{es:List Expr}{t:TA}{id T:String}{r:List V->Hp->VK->Prop}
def Kf (r:List V->Hp->VK->Prop)(t:TA):TE:=fun σ H Q=>t σ H fun vs H1=>r vs H1 Q
theorem jw (hc:dA X (.builtin id) r)(hg:Gl X x)(hm:X.mg x=none)(hv:bootBuiltins x=some (.builtin id))(ha:PA X (e::es) t)(hn:x≠"__name__":=by decide)(hdb:(x==("__debug__":Str))=false:=by decide)
 (he:starEach (e::es) X.env=(false,eval e X.env)::starEach es X.env:=by rfl) (hpl:(backTo pos (starEach es X.env)).any (·.1)=false:=by rfl):PE X (.Call (.Name x p) (e::es) [] pos) (Kf r t):=by
 intro pins s σ H Q I h
 refine wpAny_Call_Name_kw (jU I hg hm hv ?_ hn hdb)
 exact PyProof.Rows.callWith_builtin1 (bx (ha pos pins s σ H _ I h) fun us s1 ⟨vs,H1,I1,r1,q1⟩=>hc pins s1 σ H1 vs us Q I1 r1 q1) he hpl
theorem zm (hc:dA X (.type T) r)(hg:Gl X x)(hm:X.mg x=none)(hv:bootBuiltins x=some (.type T))(ha:PA X (e::es) t)(hn:x≠"__name__":=by decide)(hdb:(x==("__debug__":Str))=false:=by decide)
 (he:starEach (e::es) X.env=(false,eval e X.env)::starEach es X.env:=by rfl) (hpl:(backTo pos (starEach es X.env)).any (·.1)=false:=by rfl):PE X (.Call (.Name x p) (e::es) [] pos) (Kf r t):=by
 intro pins s σ H Q I h
 refine wpAny_Call_Name_kw (jU I hg hm hv ?_ hn hdb)
 exact PyProof.Rows.callWith_type1 (bx (ha pos pins s σ H _ I h) fun us s1 ⟨vs,H1,I1,r1,q1⟩=>hc pins s1 σ H1 vs us Q I1 r1 q1) he hpl
end
end L2
namespace HT
open PySem PyProof.Rows
section
variable {prog:Program}{w:World}{A:Around}{E:Value->Shared->Prop}{s:Shared}
theorem EY {t b:Addr}{vs ws:List Value}{Q:Value->Shared->Prop}(ht:IsTup s.heap t vs.toArray)(hb:IsTup s.heap b ws.toArray)(hv:vs≠[])
 (h1:ws=[]->Q (.ref t) s) (h2:ws≠[]->Q (.ref s.heap.objs.size) {s with heap:=s.heap.push {cls:=.type "tuple",data:=.seq (vs++ws).toArray}})
 (hsz:vs.length+ws.length<=sizeLine):wpAny (model prog w) A (binaryOp .Add (.ref t) (.ref b)) Q E s:=by
 obtain ⟨⟨cls,dd,data,sl⟩,ho,hc,n,hd⟩:=id ht
 obtain ⟨⟨cls2,dd2,data2,sl2⟩,ho2,hc2,n2,hd2⟩:=id hb
 simp only at hc hd hc2 hd2
 subst hc hd hc2 hd2
 have e:vs.toArray++ws.toArray=(vs++ws).toArray:=by simp
 by_cases hw:ws=[]
 ·exact concat_meets ⟨_,ho,rfl⟩ ⟨_,ho2,rfl⟩ noFill_tuple_add seq_tuple_add PySem.F.slot_tuple_add PySem.F.entry_tuple_add (PySem.F.args_tuple_add_2 _ _)
   (tuple_addW1 t b vs.toArray ws.toArray n n2 dd dd2 sl sl2 (by simpa using hv) (by simp [hw])) ⟨ho,ho2,h1 hw⟩
 ·refine concat_meets ⟨_,ho,rfl⟩ ⟨_,ho2,rfl⟩ noFill_tuple_add seq_tuple_add PySem.F.slot_tuple_add PySem.F.entry_tuple_add (PySem.F.args_tuple_add_2 _ _)
   (tuple_addW2 t b vs.toArray ws.toArray n n2 dd dd2 sl sl2 (by simpa using hv) (by simpa using hw) (by rw [List.size_toArray,List.size_toArray];exact hsz)) ⟨ho,ho2,?_⟩
  rw [e]
  exact h2 hw
def a8 (n d:Nat):Option Int->Nat
 |none=>d
 |some v=>if v<0 then (v+(n:Int)).toNat else min v.toNat n
theorem FE (n d:Nat)(hd:d<=n)(o:Option Int):a8 n d o<=n:=by
 cases o with
 |none=>exact hd
 | some v =>
   show (if v<0 then (v+(n:Int)).toNat else min v.toNat n)<=n
   by_cases hv:v<0
   ·rw [if_pos hv];omega
   ·rw [if_neg hv];exact Nat.min_le_right _ _
theorem wR (v:Int)(n d:Nat):(if v<0 then max (v+(n:Int)) 0 else min v (n:Int))=((a8 n d (some v):Nat):Int):=by
 show (if v<0 then max (v+(n:Int)) 0 else min v (n:Int))=(((if v<0 then (v+(n:Int)).toNat else min v.toNat n):Nat):Int)
 by_cases hv:v<0
 ·simp only [if_pos hv];omega
 ·simp only [if_neg hv];omega
theorem yt (lo hi:Option Int)(n:Nat):Builtin.Slice.sliceAdjust lo hi 1 (n:Int)=(((a8 n 0 lo:Nat):Int),((a8 n n hi:Nat):Int)):=by
 have h1:¬ ((1:Int)<0):=by omega
 unfold Builtin.Slice.sliceAdjust
 simp only [h1,if_false]
 refine Prod.ext ?_ ?_
 ·cases lo with
  |none=>rfl
  |some v=>exact wR v n 0
 ·cases hi with
  |none=>rfl
  |some v=>exact wR v n n
theorem xg (i j:Nat):Builtin.Slice.slicePlaces (i:Int) (j:Int) 1=j-i:=by
 unfold Builtin.Slice.slicePlaces
 have h1:(1:Int) > 0:=by omega
 simp only [h1,if_true,Int.ediv_one]
 split<;>omega
theorem qj {v:Value}{o:Option Int}{Q:Option Int->Shared->Prop}(p:IsPart v o)(h:Q o s):wpAny (model prog w) A (Builtin.Slice.slicePartIndex v) Q E s:=by
 cases p with
 |none=>exact slicePart_none h
 |int i t=>exact slicePart_int h
theorem kJ {sl:Addr}{vl vu:Value}{lo hi:Option Int}{n:Nat}{Q:Int×Int×Nat->Shared->Prop}(hs:s.heap.IsSliceOf sl vl vu .none)(pl:IsPart vl lo)(pu:IsPart vu hi)
 (h:Q (((a8 n 0 lo:Nat):Int),1,a8 n n hi-a8 n 0 lo) s):wpAny (model prog w) A (Builtin.Slice.sliceApplied (.ref sl) (pure (n:Int))) Q E s:=by
 obtain ⟨os,hos,hcs,hds⟩:=id hs
 unfold Builtin.Slice.sliceApplied Builtin.Slice.sliceFields
 refine tqa (tqa (tqf hos hds (x:=vl) rfl (tqa (tqf hos hds (x:=vu) rfl (tqa (tqf hos hds (x:=.none) rfl (tqb ?_)))))))
 refine tqa (slicePart_none ?_)
 show wpAny _ _ (if ((1:Int)==0)=true then _ else _) _ _ s
 rw [if_neg (by decide)]
 refine tqa (qj pl (tqa (qj pu (tqa (tqb ?_)))))
 show wpAny _ _ (match Builtin.Slice.sliceAdjust lo hi 1 (n:Int) with|(lo,hi)=>pure (lo,(1:Int),Builtin.Slice.slicePlaces lo hi 1)) _ _ s
 rw [yt lo hi n]
 show wpAny _ _ (pure (((a8 n 0 lo:Nat):Int),(1:Int),Builtin.Slice.slicePlaces ((a8 n 0 lo:Nat):Int) ((a8 n n hi:Nat):Int) 1)) _ _ s
 rw [xg]
 exact tqb h
theorem Bi (xs:Array Value)(i k:Nat):((List.range k).filterMap fun (m:Nat)=>xs[((i:Int)+(m:Int)*1).toNat]?).toArray=((xs.toList.drop i).take k).toArray:=by
 have e:(fun (m:Nat)=>xs[((i:Int)+(m:Int)*1).toNat]?)=fun m=>xs[i+m]?:=by
  funext m
  have:((i:Int)+(m:Int)*1).toNat=i+m:=by omega
  rw [this]
 rw [e]
 have:=pick_run xs i k
 rw [List.filterMap_map] at this
 have e2:((fun x=>xs[x]?)∘fun x=>i+x)=fun m=>xs[i+m]?:=rfl
 rw [e2] at this
 rw [this]
theorem oU {t sl:Addr}{items:Array Value}{vl vu:Value}{lo hi:Option Int}{Q:Value->Shared->Prop}(ht:IsTup s.heap t items)(hs:s.heap.IsSliceOf sl vl vu .none)(pl:IsPart vl lo)(pu:IsPart vu hi)
 (hw:¬ (a8 items.size 0 lo=0/\a8 items.size items.size hi=items.size))
 (h:Q (.ref s.heap.objs.size) {s with heap:=s.heap.push {cls:=.type "tuple",data:=.seq ((items.toList.drop (a8 items.size 0 lo)).take (a8 items.size items.size hi-a8 items.size 0 lo)).toArray}})
 (hsz:items.size<=sizeLine):wpAny (model prog w) A (getItem (.ref t) (.ref sl)) Q E s:=by
 have htake:sizeOk (.seq ((items.toList.drop (a8 items.size 0 lo)).take (a8 items.size items.size hi-a8 items.size 0 lo)).toArray):=by
  show ((items.toList.drop (a8 items.size 0 lo)).take (a8 items.size items.size hi-a8 items.size 0 lo)).toArray.size<=sizeLine
  rw [List.size_toArray,List.length_take,List.length_drop,Array.length_toList]
  omega
 have hj:a8 items.size items.size hi<=items.size:=FE _ _ (tqg _) hi
 obtain ⟨os,hos,hcs,hds⟩:=id hs
 have hTs:s.TypeIs (.ref sl) "slice":=⟨os,hos,hcs⟩
 unfold getItem
 try with_reducible refine tqo ?_
 first|refine tqa (tqb ?_)|skip
 refine tqa (wpAny_sequenceKey ht.typeIs (by decide) ?_)
 refine tqa (wpAny_callSpecial?_slot (name:=Str.ofString "__getitem__") ht.typeIs PyProof.Rows.slot_tuple_getitem
  (wpAny_call_entry PyProof.Rows.slot_tuple_getitem ht.typeIs entry_tuple_getitem ?_ (args_tuple_getitem _ _)))
 show wpAny _ _ (Builtin.Tuple.tupleItemsOf (.ref t) >>= _) _ _ s
 refine tqa (tupleItemsOf_ ht ?_)
 refine tqa (wpAny_typeOf hTs ?_)
 rw [if_pos (by decide)]
 refine tqa (kJ hs pl pu ?_)
 have hno:¬ ((((a8 items.size 0 lo:Nat):Int)==0&&(1:Int)==1&&(a8 items.size items.size hi-a8 items.size 0 lo)==items.size)=true):=by
  intro q
  rw [Bool.and_eq_true,Bool.and_eq_true] at q
  have q1:((a8 items.size 0 lo:Nat):Int)=0:=eq_of_beq q.1.1
  have q2:a8 items.size items.size hi-a8 items.size 0 lo=items.size:=eq_of_beq q.2
  exact hw ⟨by omega,by omega⟩
 show wpAny _ _ (if (((a8 items.size 0 lo:Nat):Int)==0&&(1:Int)==1&&(a8 items.size items.size hi-a8 items.size 0 lo)==items.size)=true then _ else _) _ _ s
 rw [if_neg hno,Bi]
 first
  |exact tqa (m:=Builtin.Tuple.tupleExact _) (wpAny_newObj_type (tqb ⟨_,rfl,tqb h⟩) htake)
  |exact tqa (m:=Builtin.Tuple.tupleExact _) (wpAny_newObj_type (tqa (tqb (tqb ⟨_,rfl,tqb h⟩))) htake)
  |exact tqa (tqa (m:=Builtin.Tuple.tupleExact _) (wpAny_newObj_type (tqb (tqb ⟨_,rfl,tqb h⟩)) htake))
  |exact tqa (tqa (m:=Builtin.Tuple.tupleExact _) (wpAny_newObj_type (tqb ⟨_,rfl,tqb h⟩) htake))
end
end HT
namespace L2
open PySem PySem.Spec PyProof.Rows
abbrev TO:=St->Hp->(Option Int->Hp->Prop)->Prop
def PO (X:Cx)(e:Option Expr)(t:TO):Prop:=
 ∀(pins:List (Addr×Obj)) (s:Shared) (σ:St) (H:Hp) (Q:Option Int->Hp->Prop),Inv X pins σ H s->t σ H Q->
  wpAny (model X.prog X.w) X.A (evalPart e X.env) (fun u s'=>∃o H',Inv X pins σ H' s'/\IsPart u o/\Q o H') X.xe s
def Dn:TO:=fun _ H Q=>Q none H
def IV (t:TE):TO:=fun σ H Q=>t σ H fun x H1=>∃i,x=.int i/\Q (some i) H1
section
variable {X:Cx}{e:Expr}{te:TE}{lo hi:Option Expr}{tl th:TO}{pos p2:Pos}
theorem D4:PO X none Dn:=by
 intro pins s σ H Q I h
 rw [evalPart_none]
 exact tqb ⟨none,H,I,.none,h⟩
theorem D3 (h:PE X e te):PO X (some e) (IV te):=by
 intro pins s σ H Q I hw
 rw [evalPart_some]
 refine bx (h pins s σ H _ I hw) fun u s1 ⟨x,H1,I1,r1,q1⟩=>?_
 obtain ⟨i,rfl,q⟩:=q1
 obtain ⟨t,rfl⟩:=r1
 exact ⟨some i,H1,I1,.int i t,q⟩
def nh (X:Cx)(r:V->Option Int->Option Int->Hp->VK->Prop):Prop:=
 ∀(pins:List (Addr×Obj)) (s:Shared) (σ:St) (H:Hp) (x:V) (v vl vu:Value) (lo hi:Option Int) (sl:Addr) (Q:VK),Inv X pins σ H s->RelV x v->s.heap.IsSliceOf sl vl vu .none->IsPart vl lo->IsPart vu hi->r x lo hi H Q->
  ∃T id,typeLookup (.type T) "__getitem__"=pure (some (.builtin id))/\s.TypeIs v T/\wpAny (model X.prog X.w) X.A (getItem v (.ref sl)) (EP X pins σ Q) X.xe s
theorem nh.or {r r':V->Option Int->Option Int->Hp->VK->Prop}(h:nh X r)(h':nh X r'):nh X (fun x lo hi H Q=>r x lo hi H Q\/r' x lo hi H Q):=by
 intro pins s σ H x v vl vu lo hi sl Q I rx hs pl pu q
 rcases q with q|q
 ·exact h pins s σ H x v vl vu lo hi sl Q I rx hs pl pu q
 ·exact h' pins s σ H x v vl vu lo hi sl Q I rx hs pl pu q
def tSl (r:V->Option Int->Option Int->Hp->VK->Prop)(te:TE)(tl th:TO):TE:=fun σ H Q=>te σ H fun x H1=>tl σ H1 fun l H2=>th σ H2 fun u H3=>r x l u H3 Q
theorem uS {r:V->Option Int->Option Int->Hp->VK->Prop}(hr:nh X r)(he:PE X e te)(hl:PO X lo tl)(hu:PO X hi th):PE X (.Subscript e (.Slice lo hi none p2) pos) (tSl r te tl th):=by
 intro pins s σ H Q I h
 refine Subscript_ (bx (he pins s σ H _ I h) fun v s1 ⟨x,H1,I1,r1,q1⟩=>?_)
 refine wpAny_Slice (bx (hl pins s1 σ H1 _ I1 q1) fun vl s2 ⟨l,H2,I2,pl,q2⟩=>bx (hu pins s2 σ H2 _ I2 q2) fun vu s3 ⟨u,H3,I3,pu,q3⟩=>?_)
 rw [evalPart_none]
 refine tqb ?_
 have I4:Inv X pins σ H3 {s3 with heap:=s3.heap.push {cls:=.type "slice",data:=.fields #[vl,vu,.none]}}:=I3.kept (t':=s3.toks) fun b ob q=>tqc _ q
 obtain ⟨T,id,hT,ht,hg⟩:=hr pins {s3 with heap:=s3.heap.push {cls:=.type "slice",data:=.fields #[vl,vu,.none]}} σ H3 x v vl vu l u s3.heap.objs.size Q I4 r1 (Heap.IsSliceOf.new ..) pl pu q3
 show wpAny (model X.prog X.w) X.A (subscriptTail e (.Slice lo hi none p2) v (.ref s3.heap.objs.size)) (EP X pins σ Q) X.xe {s3 with heap:=s3.heap.push {cls:=.type "slice",data:=.fields #[vl,vu,.none]}}
 exact tail_any (ops:=[.ref s3.heap.objs.size,v]) ht hT hg (by with_unfolding_all rfl)
def nY (xs:List V)(lo hi:Option Int):List V:=(xs.drop (HT.a8 xs.length 0 lo)).take (HT.a8 xs.length xs.length hi-HT.a8 xs.length 0 lo)
theorem oY (xs:List V)(lo hi:Option Int):(nY xs lo hi).length<=xs.length:=by
 unfold nY
 rw [List.length_take,List.length_drop]
 omega
def FO (K:PySem.W.Frag):V->Option Int->Option Int->Hp->VK->Prop:=fun x lo hi H Q=>∃a xs,x=.ref a/\eD K H a xs/\
 ¬ (HT.a8 xs.length 0 lo=0/\HT.a8 xs.length xs.length hi=xs.length)/\∀p,H p=none->Q (.ref p) (upd H p (.tup (nY xs lo hi)))
theorem Fy:nh X (FO X.K):=by
 intro pins s σ H x v vl vu lo hi sl Q I rx hs pl pu h
 obtain ⟨a,xs,rfl,hx,hw,q⟩:=h
 cases rx
 obtain ⟨its,r,ht,hz⟩:=I.tuple hx
 have hlen:its.toArray.size=xs.length:=by rw [List.size_toArray];exact r.length.symm
 refine ⟨"tuple",_,PyProof.Rows.slot_tuple_getitem.lookup,ht.typeIs,?_⟩
 refine HT.oU ht hs pl pu (by rw [hlen];exact hw) ?_ (by rw [hlen];exact hz)
 rw [hlen]
 refine ⟨.ref s.heap.objs.size,_,I.laid (t':=s.toks) (o:=.tup (nY xs lo hi)) (fun b ob q=>tqc _ q) (tqg _) ?_,rfl,q _ (I.hok.fresh (tqg _))⟩
 exact ⟨tqh (oY xs lo hi) hz,_,(r.drop (HT.a8 xs.length 0 lo)).take (HT.a8 xs.length xs.length hi-HT.a8 xs.length 0 lo),IsTup.new _ _⟩
def Jg (K:PySem.W.Frag):R2:=fun x y H Q=>∃a b xs ys,x=.ref a/\y=.ref b/\eD K H a xs/\eD K H b ys/\xs≠[]/\xs.length+ys.length<=sizeLine/\
 (ys=[]->Q (.ref a) H)/\(ys≠[]->∀p,H p=none->Q (.ref p) (upd H p (.tup (xs++ys))))
theorem Vals.nil_iff {xs:List V}{us:List Value}(r:Vals xs us):us=[]↔xs=[]:=by
 cases r with
 |nil=>simp
 |cons _ _=>simp
theorem Ee:cu X (binaryOp .Add) (Jg X.K):=by
 intro pins s σ H x y v u Q I rx ry h
 obtain ⟨a,b,xs,ys,rfl,rfl,ha,hb,hx,hz,q1,q2⟩:=h
 cases rx
 cases ry
 obtain ⟨its,r1,p1,_⟩:=I.tuple ha
 obtain ⟨its2,r2,p2,_⟩:=I.tuple hb
 refine HT.EY p1 p2 (fun z=>hx (r1.nil_iff.mp z)) (fun z=>⟨.ref a,H,I,rfl,q1 (r2.nil_iff.mp z)⟩) (fun z=>?_) (by rw [<- r1.length,<- r2.length];exact hz)
 refine ⟨.ref s.heap.objs.size,_,I.laid (t':=s.toks) (o:=.tup (xs++ys)) (fun b ob q=>tqc _ q) (tqg _) ?_,rfl,q2 (fun w=>z (r2.nil_iff.mpr w)) _ (I.hok.fresh (tqg _))⟩
 exact ⟨by rw [List.length_append];exact hz,_,r1.append r2,IsTup.new _ _⟩
end
end L2
namespace L2
open PySem PySem.Spec PyProof.Rows
def bR (n:Nat)(i:Int):Option Nat:=if 0<=i then (if i<n then some i.toNat else none) else if -(n:Int)<=i then some (i+n).toNat else none
def tx {α:Type}(xs:List α)(i:Int):Option α:=(bR xs.length i).bind fun j=>xs[j]?
theorem wz {n:Nat}{i:Int}{j:Nat}(h:bR n i=some j):seqIndex? i n=some j/\j<n/\-(n:Int)<=i/\i<n:=by
 unfold bR at h
 by_cases h0:0<=i
 ·rw [if_pos h0] at h
  by_cases h1:i<n
  ·rw [if_pos h1] at h
   have e:i.toNat=j:=Option.some.inj h
   exact ⟨by rw [seqIndex_of h0 h1,e],by omega,by omega,h1⟩
  ·rw [if_neg h1] at h;cases h
 ·rw [if_neg h0] at h
  by_cases h1:-(n:Int)<=i
  ·rw [if_pos h1] at h
   have e:(i+n).toNat=j:=Option.some.inj h
   exact ⟨by rw [seqIndex_neg (by omega) h1,e],by omega,h1,by omega⟩
  ·rw [if_neg h1] at h;cases h
theorem si {α:Type}{xs:List α}{i:Int}{v:α}(h:tx xs i=some v):∃j,seqIndex? i xs.length=some j/\xs[j]?=some v/\j<xs.length/\-(xs.length:Int)<=i/\i<xs.length:=by
 unfold tx at h
 cases e:bR xs.length i with
 |none=>rw [e] at h;cases h
 | some j =>
   rw [e] at h
   obtain ⟨h1,h2,h3,h4⟩:=wz e
   exact ⟨j,h1,h,h2,h3,h4⟩
def mq (b:Expr):Prop:=∀o i,subscripted b false o i=operate [o,i] (getItem o i)
def mr (X:Cx)(r:R2):Prop:=
 ∀(value slice:Expr) (pins:List (Addr×Obj)) (s:Shared) (σ:St) (H:Hp) (x y:V) (v u:Value) (Q:VK),Inv X pins σ H s->RelV x v->RelV y u->r x y H Q->
  subscripted slice false v u=operate [v,u] (getItem v u)->wpAny (model X.prog X.w) X.A (subscriptTail value slice v u) (EP X pins σ Q) X.xe s
def IG (X:Cx)(id:String)(r:V->List V->Hp->VK->Prop):Prop:=
 ∀(pins:List (Addr×Obj)) (s:Shared) (σ:St) (H:Hp) (x:V) (xs:List V) (v:Value) (us:List Value) (Q:VK),Inv X pins σ H s->RelV x v->Vals xs us->r x xs H Q->
  wpAny (model X.prog X.w) X.A (call (.builtin id) (v::us)) (EP X pins σ Q) X.xe s
section
variable {X:Cx}{a b:Expr}{ta tb:TE}{pos:Pos}
theorem mr.or {r r':R2}(h:mr X r)(h':mr X r'):mr X (fun x y H Q=>r x y H Q\/r' x y H Q):=by
 intro value slice pins s σ H x y v u Q I rx ry q hs
 rcases q with q|q
 ·exact h value slice pins s σ H x y v u Q I rx ry q hs
 ·exact h' value slice pins s σ H x y v u Q I rx ry q hs
theorem CM {r:R2}(hr:mr X r)(ha:PE X a ta)(hb:PE X b tb)(hs:mq b):PE X (.Subscript a b pos) (yO r ta tb):=by
 intro pins s σ H Q I h
 exact Subscript_ (Ci ha hb I h fun v u s2 x y H2 I2 rx ry q=>hr a b pins s2 σ H2 x y v u Q I2 rx ry q (hs _ _))
def FU (K:PySem.W.Frag):R2:=fun x y H Q=>∃p xs i v,x=.ref p/\y=.int i/\dq K H p xs/\tx xs i=some v/\Q v H
def FR (K:PySem.W.Frag):R2:=fun x y H Q=>∃p xs i v,x=.ref p/\y=.int i/\eD K H p xs/\tx xs i=some v/\Q v H
def FT:R2:=fun x y H Q=>∃z i c,x=.str z/\y=.int i/\z.length<=sizeLine/\tx z.cps.toList i=some c/\Q (.str ⟨#[c]⟩) H
theorem Ep:mr X (FU X.K):=by
 intro value slice pins s σ H x y v u Q I rx ry h hs
 obtain ⟨p,xs,i,z,rfl,rfl,hq,he,q⟩:=h
 cases rx
 obtain ⟨t,rfl⟩:=ry
 obtain ⟨its,r,pl,hz⟩:=I.list hq
 obtain ⟨j,h1,h2,h3,h4,h5⟩:=si he
 obtain ⟨w,ew,rw'⟩:=r.get h2
 have hl:=r.length
 have hn:=kZ
 have fin:EP X pins σ Q w s:=⟨z,H,I,rw',q⟩
 by_cases h0:0<=i
 ·have hj:i.toNat=j:=by
   rw [seqIndex_of h0 h5] at h1
   exact Option.some.inj h1
  exact item_listR pl.isList h0 (by omega) (by rw [hj];simpa using ew) fin hs
 ·have hj:(i+(its.toArray.size:Int)).toNat=j:=by
   rw [seqIndex_neg (by omega) h4] at h1
   rw [List.size_toArray,<- hl]
   exact Option.some.inj h1
  exact subscriptTail_builtinR (x:=w) pl.isList.typeIs slot_list_getitem.lookup
   (wpAny_getItem_list_neg (Q:=fun r s'=>r=w/\EP X pins σ Q r s') pl.isList (by omega) (by rw [List.size_toArray]<;>omega) (by omega) (by rw [hj];simpa using ew) ⟨rfl,fin⟩) hs
theorem HG:mr X (FR X.K):=by
 intro value slice pins s σ H x y v u Q I rx ry h hs
 obtain ⟨p,xs,i,z,rfl,rfl,hq,he,q⟩:=h
 cases rx
 obtain ⟨t,rfl⟩:=ry
 obtain ⟨its,r,pl,hz⟩:=I.tuple hq
 obtain ⟨j,h1,h2,h3,h4,h5⟩:=si he
 obtain ⟨w,ew,rw'⟩:=r.get h2
 have hl:=r.length
 have hn:=kZ
 have fin:EP X pins σ Q w s:=⟨z,H,I,rw',q⟩
 exact subscriptTail_builtinR (x:=w) pl.typeIs slot_tuple_getitem.lookup
  (getItem_tuple (j:=j) (Q:=fun r s'=>r=w/\EP X pins σ Q r s') pl (by omega) (by omega) (by rw [List.size_toArray,<- hl];exact h1) (by simpa using ew) ⟨rfl,fin⟩) hs
theorem HH:mr X FT:=by
 intro value slice pins s σ H x y v u Q I rx ry h hs
 obtain ⟨z,i,c,rfl,rfl,hz,he,q⟩:=h
 obtain ⟨t,rfl⟩:=rx
 obtain ⟨t',rfl⟩:=ry
 obtain ⟨j,h1,h2,h3,h4,h5⟩:=si he
 have hl:z.cps.toList.length=z.length:=by simp [Str.length]
 rw [hl] at h1 h4 h5
 have hn:=kZ
 exact tail_any (typeIs_str s z t) slot_str_getitem.lookup (getItem_str (c:=c) (by
  have e1:decide (i < -(2^63:Int))=false:=decide_eq_false (by omega)
  have e2:decide (i≥2^63)=false:=decide_eq_false (by omega)
  rw [e1,e2,Bool.or_false]) (by rw [h1];simpa using h2) ⟨.str ⟨#[c]⟩,H,I.tok _,⟨_,rfl⟩,q⟩) hs
def FV (K:PySem.W.Frag):R2:=fun x y H Q=>FU K x y H Q\/FR K x y H Q\/FT x y H Q
theorem HI:mr X (FV X.K):=Ep.or (HG.or HH)
theorem xK (its:List Value)(n j:Nat)(u:Value):Obj.mapSeq (·.setIfInBounds j u) {cls:=.type "list",data:=.seq its.toArray n}={cls:=.type "list",data:=.seq (its.set j u).toArray n}:=by
 simp [Obj.mapSeq]
theorem Inv.lst {pins:List (Addr×Obj)}{σ:St}{H:Hp}{s:Shared}{p:Addr}{xs:List V}(I:Inv X pins σ H s)(h:H p=some (.lst xs)) :
 ∃(its:List Value) (n:Nat),Vals xs its/\s.heap.get? p=some {cls:=.type "list",data:=.seq its.toArray n}/\xs.length<=sizeLine:=by
 obtain ⟨z,its,n,r,e⟩:=I.hok p _ h
 exact ⟨its,n,r,e,z⟩
theorem Inv.lstUpd {pins:List (Addr×Obj)}{σ:St}{H:Hp}{s:Shared}{p:Addr}{xs ys:List V}{its its':List Value}{n n':Nat}{f:Obj->Obj}(I:Inv X pins σ H s)(h:H p=some (.lst xs))
 (ho:s.heap.get? p=some {cls:=.type "list",data:=.seq its.toArray n}) (hf:f {cls:=.type "list",data:=.seq its.toArray n}={cls:=.type "list",data:=.seq its'.toArray n'}) (r:Vals ys its') (hz:ys.length<=sizeLine) (t:Nat) :
 Inv X pins σ (upd H p (.lst ys)) {s with heap:=s.heap.update p f,toks:=t}:=by
 have e:(s.heap.update p f).get? p=some {cls:=.type "list",data:=.seq its'.toArray n'}:=by
  rw [tqm f ho (by rw [hf]<;>rfl),hf]
 refine I.write (x:=p) (e:=p) (by rw [h];trivial) (.inl rfl) (fun b u hb q=>(tql _ _ (Ne.symm hb)).trans q) ⟨_,e⟩ ?_
 exact ⟨hz,its',n',r,e⟩
def CJ:V->V->V->Hp->(Hp->Prop)->Prop:=fun o i v H Q=>∃p xs k j,o=.ref p/\i=.int k/\H p=some (.lst xs)/\bR xs.length k=some j/\Q (upd H p (.lst (xs.set j v)))
theorem set_list:IF X CJ:=by
 intro pins s σ H o i v ov iv u Q I ro ri rv h
 obtain ⟨p,xs,k,j,rfl,rfl,hp,hj,q⟩:=h
 cases ro
 obtain ⟨t,rfl⟩:=ri
 obtain ⟨its,n,r,ho,hz⟩:=I.lst hp
 obtain ⟨h1,h2,h3,h4⟩:=wz hj
 have hl:=r.length
 have hn:=kZ
 have I':Inv X pins σ (upd H p (.lst (xs.set j v))) {s with heap:=s.heap.update p (Obj.mapSeq (·.setIfInBounds j u))}:=
  I.lstUpd hp ho (xK its n j u) (r.set rv j) (by rw [List.length_set];exact hz) s.toks
 by_cases h0:0<=k
 ·have hk:k.toNat=j:=by
   rw [seqIndex_of h0 h4] at h1
   exact Option.some.inj h1
  exact PySem.W.ki_setAt ho h0 (by omega) (by rw [List.size_toArray,<- hl];exact h4) (by rw [hk];exact ⟨_,I',q⟩)
 ·have hk:(k+(its.toArray.size:Int)).toNat=j:=by
   rw [seqIndex_neg (by omega) h3] at h1
   rw [List.size_toArray,<- hl]
   exact Option.some.inj h1
  exact PySem.W.ki_setBack ho (by omega) (by rw [List.size_toArray,<- hl];exact h3) (by omega) (by rw [hk];exact ⟨_,I',q⟩)
theorem uE (lo hi:Option Int)(n:Nat):(sliceBounds lo hi none n).1=((HT.a8 n 0 lo:Nat):Int)/\(sliceBounds lo hi none n).2.1=((HT.a8 n n hi:Nat):Int)/\(sliceBounds lo hi none n).2.2=1:=by
 refine ⟨?_,?_,rfl⟩
 ·cases lo with
  |none=>simp [sliceBounds,HT.a8]
  | some i =>
    simp only [sliceBounds,HT.a8,Option.getD_none,show (1:Int) > 0 by decide,if_true]
    by_cases h:i<0
    ·simp only [h,if_true]<;>omega
    ·simp only [h,if_false]<;>omega
 ·cases hi with
  |none=>simp [sliceBounds,HT.a8]
  | some i =>
    simp only [sliceBounds,HT.a8,Option.getD_none,show (1:Int) > 0 by decide,if_true]
    by_cases h:i<0
    ·simp only [h,if_true]<;>omega
    ·simp only [h,if_false]<;>omega
theorem tJ (its:List Value)(lo hi:Option Int):slicePick its.toArray lo hi none=((its.drop (HT.a8 its.length 0 lo)).take (HT.a8 its.length its.length hi-HT.a8 its.length 0 lo)).toArray:=by
 obtain ⟨h1,h2,h3⟩:=uE lo hi its.toArray.size
 unfold slicePick
 rw [h1,h2,h3]
 simp only [sliceRange_one,pick_run,List.size_toArray]<;>rfl
def FP (K:PySem.W.Frag):V->Option Int->Option Int->Hp->VK->Prop:=fun x lo hi H Q=>∃a xs,x=.ref a/\dq K H a xs/\∀p,H p=none->Q (.ref p) (upd H p (.lst (nY xs lo hi)))
theorem DC:nh X (FP X.K):=by
 intro pins s σ H x v vl vu lo hi sl Q I rx hs pl pu h
 obtain ⟨a,xs,rfl,hx,q⟩:=h
 cases rx
 obtain ⟨its,r,ht,hz⟩:=I.list hx
 have hlen:=r.length
 refine ⟨"list",_,slot_list_getitem.lookup,ht.isList.typeIs,?_⟩
 refine wpAny_getItem_list_slice ht.isList hs pl pu .none (by simp) ?_ (by rw [List.size_toArray]<;>omega)
 rw [tJ,<- hlen]
 refine ⟨.ref s.heap.objs.size,_,I.laid (t':=s.toks) (o:=.lst (nY xs lo hi)) (fun b ob q=>tqc _ q) (tqg _) ?_,rfl,q _ (I.hok.fresh (tqg _))⟩
 exact ⟨tqh (oY xs lo hi) hz,_,0,(r.drop (HT.a8 xs.length 0 lo)).take (HT.a8 xs.length xs.length hi-HT.a8 xs.length 0 lo),tqe _ rfl⟩
theorem vC:dA X (.builtin "len") (fun xs H Q=>∃p ys,xs=[.ref p]/\(dq X.K H p ys\/eD X.K H p ys)/\Q (.int ys.length) H):=by
 intro pins s σ H xs us Q I r h
 obtain ⟨p,ys,rfl,hq,q⟩:=h
 obtain ⟨u,rfl,rx⟩:=vals1 r
 cases rx
 have hn:=kZ
 rcases hq with hq|hq
 ·obtain ⟨its,r',pl,hz⟩:=I.list hq
  have hlen:=r'.length
  exact Calls.call_len_list pl.isList (by simp only [List.size_toArray]<;>omega) ⟨.int ys.length,H,I.tok _,⟨s.toks+1,by rw [List.size_toArray,hlen]⟩,q⟩
 ·obtain ⟨its,r',pl,hz⟩:=I.tuple hq
  have hlen:=r'.length
  exact len_tuple pl (by simp only [List.size_toArray]<;>omega) ⟨.int ys.length,H,I.tok _,⟨s.toks+1,by rw [List.size_toArray,hlen]⟩,q⟩
theorem vB:dA X (.builtin "len") (fun xs H Q=>∃z,xs=[.str z]/\z.length<=sizeLine/\Q (.int z.length) H):=by
 intro pins s σ H xs us Q I r h
 obtain ⟨z,rfl,hz,q⟩:=h
 obtain ⟨u,rfl,t,rfl⟩:=vals1 r
 have hn:=kZ
 exact len_str (by omega) ⟨.int z.length,H,I.tok _,⟨_,rfl⟩,q⟩
theorem dA.or {f:Value}{r r':List V->Hp->VK->Prop}(h:dA X f r)(h':dA X f r'):dA X f (fun xs H Q=>r xs H Q\/r' xs H Q):=by
 intro pins s σ H xs us Q I rs q
 rcases q with q|q
 ·exact h pins s σ H xs us Q I rs q
 ·exact h' pins s σ H xs us Q I rs q
theorem vA:dA X (.type "list") (fun xs H Q=>∃p ys,xs=[.ref p]/\(dq X.K H p ys\/eD X.K H p ys)/\∀l,H l=none->Q (.ref l) (upd H l (.lst ys))):=by
 intro pins s σ H xs us Q I r h
 obtain ⟨p,ys,rfl,hq,q⟩:=h
 obtain ⟨u,rfl,rx⟩:=vals1 r
 cases rx
 have fin:∀(its:List Value),Vals ys its->ys.length<=sizeLine->∀(h':Heap) (c':Nat),(∀b o',s.heap.get? b=some o'->h'.get? b=some o')->
  h'.get? s.heap.objs.size=some {cls:=.type "list",dict:=none,data:=.seq its.toArray c',slots:=#[]}->EP X pins σ Q (.ref s.heap.objs.size) {s with heap:=h'}:=fun its r' hz h' c' kp e=>
  ⟨.ref s.heap.objs.size,_,I.laid (t':=s.toks) kp (tqg _) (show dz X.prog X.w _ h' _ (.lst ys) from ⟨hz,its,c',r',e⟩),rfl,q _ (I.hok.fresh (tqg _))⟩
 rcases hq with hq|hq
 ·obtain ⟨its,r',pl,hz⟩:=I.list hq
  have hlen:=r'.length
  obtain ⟨o,ho,hc,n,hd⟩:=pl.isList
  exact call_list_seq p (.inl rfl) ho hc hd (fun h' c' kp e=>fin its r' hz h' c' kp e) (by simp only [List.size_toArray]<;>omega)
 ·obtain ⟨its,r',pl,hz⟩:=I.tuple hq
  have hlen:=r'.length
  obtain ⟨o,ho,hc,n,hd⟩:=pl
  exact call_list_seq p (.inr rfl) ho hc hd (fun h' c' kp e=>fin its r' hz h' c' kp e) (by simp only [List.size_toArray]<;>omega)
theorem tO:dA X (.type "tuple") (fun xs H Q=>∃p ys,xs=[.ref p]/\((dq X.K H p ys/\∀l,H l=none->Q (.ref l) (upd H l (.tup ys)))\/(eD X.K H p ys/\Q (.ref p) H))):=by
 intro pins s σ H xs us Q I r h
 obtain ⟨p,ys,rfl,h⟩:=h
 obtain ⟨u,rfl,rx⟩:=vals1 r
 cases rx
 rcases h with ⟨hq,q⟩|⟨hq,q⟩
 ·obtain ⟨its,r',pl,hz⟩:=I.list hq
  have hlen:=r'.length
  refine call_tuple_list pl.isList (fun h' kp=>?_) (by simp only [List.size_toArray]<;>omega)
  have I1:Inv X pins σ H {s with heap:=h'}:=I.kept (t':=s.toks) kp
  have I2:Inv X pins σ (upd H h'.objs.size (.tup ys)) {s with heap:=h'.push {cls:=.type "tuple",data:=.seq its.toArray}}:=
   I1.laid (t':=s.toks) (fun b o e=>tqc _ e) (tqg _) (show dz X.prog X.w _ _ _ (.tup ys) from ⟨hz,its,r',IsTup.new _ _⟩)
  exact ⟨.ref h'.objs.size,_,I2,rfl,q _ (I1.hok.fresh (tqg _))⟩
 ·obtain ⟨its,r',pl,hz⟩:=I.tuple hq
  exact call_tuple_same pl ⟨.ref p,H,I,rfl,q⟩
def Kc (K:PySem.W.Frag)(T:String)(x:V)(H:Hp):Prop:=match x with
 |.str _=>T="str"
 |.int _=>T="int"
 |.ref p=>(T="list"/\∃xs,dq K H p xs)\/(T="tuple"/\∃o,K.lookup p=some o/\o.cls=.type "tuple"/\o.dict=none)\/
  (T="dict"/\((∃kvs,H p=some (.dK kvs))\/∃kvs,H p=some (.dT kvs)))\/(T="set"/\∃S n,H p=some (.set S n))
 |_=>False
theorem Fi {pins:List (Addr×Obj)}{σ:St}{H:Hp}{s:Shared}{T:String}{x:V}{v:Value}(I:Inv X pins σ H s)(r:RelV x v)(ty:Kc X.K T x H) :
 s.TypeIs v T/\∀a,v=.ref a->∃ob,s.heap.get? a=some ob/\ob.dict=none:=by
 cases x with
 | str z =>
   obtain ⟨t,rfl⟩:=r
   cases (show T="str" from ty)
   exact ⟨typeIs_str s z t,fun _ e=>nomatch e⟩
 | int i =>
   obtain ⟨t,rfl⟩:=r
   cases (show T="int" from ty)
   exact ⟨typeIs_int s i t,fun _ e=>nomatch e⟩
 | ref p =>
   cases r
   rcases ty with ⟨rfl,xs,hq⟩|⟨rfl,o,hk,hc,hd⟩|⟨rfl,hk⟩|⟨rfl,S,n,hk⟩
   ·obtain ⟨its,_,pl,_⟩:=I.list hq
    refine ⟨pl.isList.typeIs,fun a e=>?_⟩
    cases e
    obtain ⟨o,n,e,c,hd,_⟩:=pl
    exact ⟨o,e,hd⟩
   ·refine ⟨⟨o,I.kIn p o hk,hc⟩,fun a e=>?_⟩
    cases e
    exact ⟨o,I.kIn _ o hk,hd⟩
   ·have z:∃o,s.heap.get? p=some o/\o.ExactDict:=by
     rcases hk with ⟨kvs,hk⟩|⟨kvs,hk⟩
     ·obtain ⟨_,_,_,_,o,_,_,e,ex,_⟩:=I.hok p _ hk
      exact ⟨o,e,ex⟩
     ·obtain ⟨_,_,_,_,o,_,_,e,ex,_⟩:=I.hok p _ hk
      exact ⟨o,e,ex⟩
    obtain ⟨o,e,ex⟩:=z
    refine ⟨⟨o,e,ex.1⟩,fun a e2=>?_⟩
    cases e2
    exact ⟨o,e,ex.2.1⟩
   ·obtain ⟨o,_,_,_,e,ex,_⟩:=I.hok p _ hk
    refine ⟨⟨o,e,ex.1⟩,fun a e2=>?_⟩
    cases e2
    exact ⟨o,e,ex.2.1⟩
 |_=>exact False.elim ty
def tBM (K:PySem.W.Frag)(T:String)(r:V->List V->Hp->VK->Prop)(to:TE)(t:TA):TE:=fun σ H Q=>to σ H fun x H1=>Kc K T x H1/\t σ H1 fun xs H2=>r x xs H2 Q
variable {o e:Expr}{es:List Expr}{to:TE}{t:TA}{name:Str}{apos cpos:Pos}{T id:String}{r:V->List V->Hp->VK->Prop}
theorem xh (pa:PlainAttrs T)(slot:Slot T name id)(hty:typeOf (.builtin id)=pure (.type "method_descriptor"))(hm:IG X id r)(ho:PE X o to)(ha:PA X (e::es) t)
 (hbase:attributeBase o name X.env (eval o X.env)=eval o X.env:=by rfl)
 (hfew:((backTo cpos (starEach (e::es) X.env)).all (fun x=>!x.1)&&(backToKw cpos (keywordEach [] X.env)).all (fun x=>x.1.isSome)
  && decide ((e::es).length+([]:List Keyword).length+(if ([]:List Keyword).isEmpty then 0 else 1)<30))=true:=by rfl)
 (hline:(apos.endLine==cpos.line)=true:=by rfl) (hs:starEach (e::es) X.env=(false,eval e X.env)::starEach es X.env:=by rfl) (hplain:(backTo cpos (starEach es X.env)).any (·.1)=false:=by rfl) :
 PE X (.Call (.Attribute o name apos) (e::es) [] cpos) (tBM X.K T r to t):=by
 intro pins s σ H Q I h
 refine wpAny_Call_method_late hbase hfew hline rfl (bx (ho pins s σ H _ I h) fun v s1 ⟨x,H1,I1,r1,ty,q1⟩=>?_)
 obtain ⟨h1,h2⟩:=Fi I1 r1 ty
 refine ⟨T,id,pa,slot,hty,h1,h2,?_⟩
 have hA:=ha cpos pins s1 σ H1 _ I1 q1
 rw [hs] at hA ⊢
 refine Calls.callWith_builtin (by show (false||(backTo cpos (starEach es X.env)).any (·.1))=false;rw [hplain]<;>rfl) (Calls.evalArgs_plain ?_)
 exact bx hA fun us s2 ⟨vs,H2,I2,r2,q2⟩=>hm pins s2 σ H2 x vs v us Q I2 r1 r2 q2
end
end L2
namespace L2
open PySem PySem.Spec PyProof.Rows
def Ky (X:Cx)(id:String)(r:V->List V->Hp->VK->Prop):Prop:=
 ∀(pins:List (Addr×Obj)) (s:Shared) (σ:St) (H:Hp) (x:V) (xs:List V) (v:Value) (us:List Value) (Q:VK),Inv X pins σ H s->RelV x v->Vals xs us->r x xs H Q->
  wpAny (model X.prog X.w) X.A (call (.builtin id) (v::us)) (EP X pins σ Q) X.xe s
theorem Vals.one:∀{x:V}{us:List Value},Vals [x] us->∃u,us=[u]/\RelV x u
 |_,_,.cons r .nil=>⟨_,rfl,r⟩
theorem Vals.rep {xs:List V}{us:List Value}(h:Vals xs us):∀k:Nat,Vals (List.replicate k xs).flatten (List.replicate k us).flatten
 |0=>.nil
 | k + 1 => by
   rw [List.replicate_succ,List.replicate_succ,List.flatten_cons,List.flatten_cons]
   exact Vals.append h (Vals.rep h k)
theorem foldl_rep (its:List Value):∀(k:Nat) (acc:List Value),
 List.foldl (fun x1 x2=>x1++x2) acc.toArray (List.replicate k its.toArray)=(acc++(List.replicate k its).flatten).toArray
 |0,acc=>by simp
 | k + 1, acc => by
   have e:acc.toArray++its.toArray=(acc++its).toArray:=by simp
   have e2:(acc++its)++(List.replicate k its).flatten=acc++(List.replicate (k+1) its).flatten:=by
    rw [List.replicate_succ,List.flatten_cons,List.append_assoc]
   rw [<- e2,<- foldl_rep its k (acc++its),<- e,List.replicate_succ,List.foldl_cons]
section
variable {X:Cx}{pins:List (Addr×Obj)}{σ:St}{H:Hp}{s:Shared}{l b:Addr}{xs ys zs:List V}
theorem Inv.lset {its its':List Value}{n:Nat}{f:Array Value->Array Value}{t':Nat}(I:Inv X pins σ H s)(hH:H l=some (.lst xs))
 (e:s.heap.get? l=some {cls:=.type "list",data:=.seq its.toArray n}) (hf:f its.toArray=its'.toArray) (hv:Vals ys its') (hz:ys.length<=sizeLine) :
 Inv X pins σ (upd H l (.lst ys)) {s with heap:=s.heap.update l (Obj.mapSeq f),toks:=t'}:=by
 have q:=PySem.IsL.update e f
 rw [hf] at q
 refine I.write (x:=l) (e:=l) (by rw [hH];exact trivial) (.inl rfl) (fun b' u hb hu=>(tql s.heap (Obj.mapSeq f) (Ne.symm hb)).trans hu) ⟨_,q⟩ ?_
 exact ⟨hz,its',_,hv,q⟩
theorem Inv.lnew {its:List Value}{t':Nat}(I:Inv X pins σ H s)(hv:Vals ys its)(hz:ys.length<=sizeLine) :
 Inv X pins σ (upd H s.heap.objs.size (.lst ys)) {s with heap:=s.heap.push {cls:=.type "list",data:=.seq its.toArray},toks:=t'}:=
 I.laid (fun _ _ q=>tqc _ q) (tqg _) ⟨hz,its,0,hv,tqe _ rfl⟩
theorem Inv.fresh (I:Inv X pins σ H s):H s.heap.objs.size=none:=I.hok.fresh (tqg _)
theorem Inv.lstM (I:Inv X pins σ H s)(hH:H l=some (.lst xs)):xs.length<=sizeLine/\∃(its:List Value) (n:Nat),Vals xs its/\xs.length=its.length/\s.heap.get? l=some {cls:=.type "list",data:=.seq its.toArray n}:=by
 obtain ⟨z,its,n,r,e⟩:=I.hok l _ hH
 exact ⟨z,its,n,r,r.length,e⟩
theorem u9 {n:Nat}(h:n<=sizeLine):Builtin.List.listTooLong n=false:=by
 unfold Builtin.List.listTooLong
 exact decide_eq_false (by omega)
end
section
variable {X:Cx}
def DV:V->List V->Hp->VK->Prop:=fun x vs H Q=>∃l xs y,x=.ref l/\vs=[y]/\H l=some (.lst xs)/\xs.length<sizeLine/\Q .non (upd H l (.lst (xs++[y])))
theorem sQ:Ky X "list.append" DV:=by
 intro pins s σ H x vs v us Q I rx rv h
 obtain ⟨l,xs,y,rfl,rfl,hH,hz,q⟩:=h
 cases rx
 obtain ⟨u,rfl,ru⟩:=rv.one
 obtain ⟨z,its,n,r,hl,e⟩:=I.lstM hH
 refine call_meets F.slot_list_append ⟨_,e,rfl⟩ F.entry_list_append (F.args_list_append_2 _ _) (PySem.list_append l its.toArray n u (by rw [List.size_toArray];omega)) ⟨e,?_⟩
 refine ⟨.non,_,I.lset (its':=its++[u]) hH e (by simp) (r.append (.cons ru .nil)) ?_,rfl,q⟩
 rw [List.length_append,List.length_singleton]
 omega
def DU:V->List V->Hp->VK->Prop:=fun x vs H Q=>∃l b xs zs,x=.ref l/\vs=[.ref b]/\H l=some (.lst xs)/\H b=some (.lst zs)/\xs.length+zs.length<=sizeLine/\Q .non (upd H l (.lst (xs++zs)))
theorem Kv:Ky X "list.extend" DU:=by
 intro pins s σ H x vs v us Q I rx rv h
 obtain ⟨l,b,xs,zs,rfl,rfl,hH,hB,hz,q⟩:=h
 cases rx
 obtain ⟨u,rfl,ru⟩:=rv.one
 cases ru
 obtain ⟨z,its,n,r,hl,e⟩:=I.lstM hH
 obtain ⟨z2,its2,n2,r2,hl2,e2⟩:=I.lstM hB
 have hsz:its.toArray.size+its2.toArray.size<=sizeLine:=by rw [List.size_toArray,List.size_toArray];omega
 have hlong:¬ (!its.toArray.isEmpty&&Builtin.List.listTooLong (its.toArray.size+its2.toArray.size))=true:=by
  rw [u9 hsz,Bool.and_false]
  exact tqj
 refine call_meets F.slot_list_extend ⟨_,e,rfl⟩ F.entry_list_extend (F.args_list_extend_2 _ _)
  (AutoSeq1.list_extend_list_list_0 l its.toArray n b its2.toArray n2 hlong (by rw [List.size_toArray];omega) (by omega)) ⟨e,e2,?_⟩
 refine ⟨.non,_,I.lset (its':=its++its2) hH e (by simp) (r.append r2) ?_,rfl,q⟩
 rw [List.length_append]
 omega
def Lc:R2:=fun x y H Q=>∃l b xs zs,x=.ref l/\y=.ref b/\H l=some (.lst xs)/\H b=some (.lst zs)/\xs.length+zs.length<=sizeLine/\∀p,H p=none->Q (.ref p) (upd H p (.lst (xs++zs)))
theorem GC:cu X (binaryOp .Add) Lc:=by
 intro pins s σ H x y v u Q I rx ry h
 obtain ⟨l,b,xs,zs,rfl,rfl,hH,hB,hz,q⟩:=h
 cases rx
 cases ry
 obtain ⟨z,its,n,r,hl,e⟩:=I.lstM hH
 obtain ⟨z2,its2,n2,r2,hl2,e2⟩:=I.lstM hB
 refine PySem.P.add_list e e2 ?_ (by rw [List.size_toArray,List.size_toArray];omega)
 have ea:its.toArray++its2.toArray=(its++its2).toArray:=by simp
 rw [ea]
 exact ⟨.ref _,_,I.lnew (t':=s.toks) (r.append r2) (by rw [List.length_append];omega),rfl,q _ I.fresh⟩
def K9:R2:=fun x y H Q=>∃l k xs,x=.ref l/\y=.int k/\H l=some (.lst xs)/\-(2^63)<=k/\k<2^63/\xs.length*k.toNat<=sizeLine/\
 ∀p,H p=none->Q (.ref p) (upd H p (.lst (List.replicate k.toNat xs).flatten))
theorem len_rep {α:Type}(xs:List α)(k:Nat):(List.replicate k xs).flatten.length=k*xs.length:=by
 induction k with
 |zero=>simp
 |succ k ih=>rw [List.replicate_succ,List.flatten_cons,List.length_append,ih,Nat.succ_mul,Nat.add_comm]
theorem Gv:cu X (binaryOp .Mult) K9:=by
 intro pins s σ H x y v u Q I rx ry h
 obtain ⟨l,k,xs,rfl,rfl,hH,h1,h2,hz,q⟩:=h
 cases rx
 obtain ⟨t,rfl⟩:=ry
 obtain ⟨z,its,n,r,hl,e⟩:=I.lstM hH
 have hlen:its.toArray.size*k.toNat<=sizeLine:=by rw [List.size_toArray,<- hl];exact hz
 have hcap:¬ its.toArray.size*k.toNat > (2^63-1) / 8:=by
  have:(sizeLine:Nat)<=(2^63-1) / 8:=by decide
  omega
 have hfit:¬ (!Builtin.List.listFitsIndex k)=true:=by
  rw [fitsIndex_both h1 h2]
  exact tqj
 have hlong:¬ Builtin.List.listTooLong (its.toArray.size*k.toNat)=true:=by
  rw [u9 hlen]
  exact tqj
 have hnew:List.foldl (fun x1 x2=>x1++x2) #[] (List.replicate (if its.toArray.isEmpty=true then 0 else k.toNat) its.toArray)=(List.replicate k.toNat its).flatten.toArray:=by
  have f0:∀m:Nat,List.foldl (fun x1 x2=>x1++x2) #[] (List.replicate m its.toArray)=(List.replicate m its).flatten.toArray:=fun m=>by
   have:=foldl_rep its m []
   rw [List.nil_append] at this
   exact this
  rw [f0]
  cases its with
  |nil=>simp
  |cons a r'=>rw [if_neg (by simp)]
 refine wpAny_binaryOp_repeat_ref (T:="list") (U:="int") (by decide) ⟨_,e,rfl⟩ (fun s'=>typeIs_int s' k t) noFill_list_mul F.fills_int_mul F.slot_int_rmul repeat_list F.slot_int_index.lookup
  (call_meets F.slot_int_rmul (typeIs_int s k t) F.entry_int_rmul (F.args_int_rmul_2 _ _) (int___rmul___int_list k t l its.toArray n)
   ⟨e,rfl,⟨_,e,rfl⟩,call_meets F.slot_list_mul ⟨_,e,rfl⟩ F.entry_list_mul (F.args_list_mul_2 _ _) (AutoListH.list___mul___list_int_3 l its.toArray n k t hfit hcap hlong) ⟨e,?_⟩⟩)
 rw [hnew]
 exact ⟨.ref _,_,I.lnew (t':=s.toks) (r.rep k.toNat) (by rw [len_rep,Nat.mul_comm];exact hz),rfl,q _ I.fresh⟩
end
end L2
namespace Att
open PySem PySem.W PySem.Calls PyProof.Rows
theorem qL {P:Params}{h:Heap}:∀(ns:List Int) (vs:List Value),WellAll P h vs (ns.map WData.int)->IntsAre vs ns:=by
 intro ns
 induction ns with
 | nil =>
   intro vs w
   rw [List.map_nil] at w
   cases w
   exact .nil
 | cons n ns ih =>
   intro vs w
   rw [List.map_cons] at w
   cases w with
   | cons a b =>
     cases a
     exact .cons _ _ (ih _ b)
theorem y7 {l:OpenLaw}{n:Nat}(hn:l.most=some n){P:Params}{h:Heap}{args:List WData}{vals:List Value}
 (hpre:l.row.toRowW.claim.pre args=true) (hwl:WellAll P h vals args) :
 ∃a vs ns,vals=[Value.ref a]/\args=[WData.list (ns.map WData.int)]/\h.get? a=some {cls:=.type "list",data:=.seq vs.toArray}/\IntsAre vs ns/\ns.length<=n:=by
 have hsh:WShape.hasAll [] args [.list .int]=true:=(pre_splitW hpre).1
 have hc:l.pre.holds [] {args:=args}=true:=(pre_splitW hpre).2
 obtain ⟨d,r,rfl,h1,h2⟩:=hasAllW_cons hsh
 obtain rfl:=hasAllW_nil h2
 obtain ⟨xs,rfl,h3⟩:=hasW_list h1
 obtain ⟨ns,rfl⟩:=items_int h3
 have hlen:ns.length<=n:=by
  unfold OpenLaw.pre at hc
  have h4:(WTm.not (.lt (.lit (.int (n:Int))) (.len (.arg 0)))).holds [] {args:=[.list (ns.map .int)]}=true:=by
   have h4:=(holds_andW hc).1
   rw [hn] at h4
   exact h4
  have h5:=condW_of h4 (w_not (w_lt w_lit (w_len_list (w_arg rfl))))
  rw [List.length_map] at h5
  refine Nat.le_of_not_lt fun q=>?_
  have q':(n:Int)<((ns.length:Nat):Int):=by omega
  first
   |(rw [decide_eq_true q'] at h5;exact absurd h5 (by decide))
   |(simp at h5;omega)
 cases hwl with
 | cons w1 w2 =>
   cases w2
   cases w1 with
   |list ho hall=>exact ⟨_,_,ns,rfl,rfl,ho,qL ns _ hall,hlen⟩
theorem zh (l:OpenLaw)(args:List WData):l.row.toRowW.claim.post args (.bool true) args=true:=
 postW_of (r:=l.row.toRowW) (X:=(true==true))
  (show WShape.has [] (.bool true) .bool=true by first|rfl|decide|simp [WShape.has,WShape.arms,WShape.armsAll])
  (show (WTm.eq .res (.lit (.bool true))).value [] {args:=args,res:=some (.bool true),after:=args}=some (.bool (true==true)) from w_eq_bool (w_res rfl) w_lit) rfl
theorem attach_call {l:OpenLaw}{n:Nat}{q:Program}{loose:List Str}{XP:(Str->Option Value)->Heap->Prop}{YP:World->Heap->Prop}{d:DefRec}
 (hn:l.most=some n) (hdf:d.params.defaults=[])
 (call:∀(w:World) (s₀ s₁:Shared) (mg mb:Str->Option Value) (fa:Addr) (o:Obj) (pm cd doc:Value) (a:Addr) (vs:List Value) (ns:List Int),
  Ground q loose [] XP w s₀ mg mb s₁.heap->YP w s₁.heap->
  s₁.heap.get? fa=some o->o.data=.func (docDef d.name d.params d.body d.scope pm cd doc)->s₁.heap.CodeRec cd d.name->mg d.name=some (.ref fa)->
  s₁.heap.get? a=some {cls:=.type "list",data:=.seq vs.toArray}->IntsAre vs ns->ns.length<=n->s₁.gens=#[]->
  codeAny (model l.prog w) callerA (.call (.ref fa) ⟨[.ref a],[]⟩) (fun r s'=>r=.ok (.ret (.bool true))/\OldK s₁.heap s'.heap/\s'.os=s₁.os/\AllBare s'.gens) s₁) :
 WalkO q loose XP YP l.row.toRowW d [] (fun f vs=>PySem.call f vs):=by
 intro w s₀ s₁ mg mb G Y fa o pm cd doc dV kV ho hd hcd hD hmg hg args vals as hpre hlay hrd hwl hlo
 obtain rfl:dV=.none:=Dflts.none hD hdf
 obtain rfl:kV=.none:=Dflts.noKw hD
 obtain ⟨a,vs,ns,rfl,rfl,hobj,hints,hlen⟩:=y7 hn hpre hwl
 refine enter_call (codeAny_mono (call w s₀ s₁ mg mb fa o pm cd doc a vs ns G Y ho (fd_plain hd) hcd hmg hobj hints hlen hg) fun r s' hq=>?_)
 obtain ⟨rfl,h2,h3,h4⟩:=hq
 exact ⟨.inl ⟨.bool true,.bool true,[],rfl,fun _=>rfl,.bool true,zh l _,fun _=>⟨List.Pairwise.nil,fun _ hm=>(nomatch hm)⟩⟩,h2,h3,h4⟩
end Att
namespace L2
open PySem PySem.Spec PyProof.Rows
theorem su:∀{vs:List Value}{ns:List Int},IntsAre vs ns->Vals (ns.map V.int) vs
 |_,_,.nil=>.nil
 |_,_,.cons n t h=>.cons ⟨t,rfl⟩ (su h)
def yw (H:Hp):Prop:=∀b,H b=none\/∃o xs,H b=some (.frz o (.lst xs))
theorem BP {P:Program}{w:World}{K:PySem.W.Frag}{mg mb:Str->Option Value}{CX:pf}{k:Nat}{fa a:Addr}{fd:FuncData}{x:Str}{sp:Sp}{s₁:Shared}{vs:List Value}{ns:List Int}
 (KX:K.In s₁.heap) (hns:s₁.heap.Ns mainGlobals mg) (hb:s₁.heap.Ns builtinsNs mb) (hbb:∀x:Str,x≠"__name__"->mb x=bootBuiltins x) (hlim:s₁.heap.NoLimit) (hg:s₁.gens=#[])
 (ha:s₁.heap.get? a=some {cls:=.type "list",data:=.seq vs.toArray}) (hi:IntsAre vs ns) (hl:ns.length<=sizeLine) (hr:cC k callerA)
 (F:∀base:Heap,K.In base->base.Ns mainGlobals mg->lV P w K mg base CX k fa fd [x] sp) (hbind:∀(s:Shared) (u:Value),BindsTo s fd ⟨[u],[]⟩ [(x,u)])
 (hsp:∀H:Hp,yw H->dq K H a (ns.map V.int)->sp [.ref a] H (fun v _=>v=.bl true) fun _ _ _=>False)
 (hCX:∀H e s',CX [] H s₁ (fun _ _ _=>False) e s'->False) :
 codeAny (model P w) callerA (.call (.ref fa) ⟨[.ref a],[]⟩) (fun r s'=>r=.ok (.ret (.bool true))/\OldK s₁.heap s'.heap/\s'.os=s₁.os/\AllBare s'.gens) s₁:=by
 have rv:=su hi
 have lenV:=hi.length
 have core:∀H:Hp,yw H->dq K H a (ns.map V.int)->ft P w H s₁.heap->(∀b,H b≠none->b=a)->(H a≠none->K.lookup a=none)->
  codeAny (model P w) callerA (.call (.ref fa) ⟨[.ref a],[]⟩) (fun r s'=>r=.ok (.ret (.bool true))/\OldK s₁.heap s'.heap/\s'.os=s₁.os/\AllBare s'.gens) s₁:=by
  intro H hO hS hok hA hK
  have base_of:∀{b:Addr}{o:Obj},s₁.heap.get? b=some o->H b=none->(mQ s₁.heap H).get? b=some o:=fun e n=>B0 e n
  have noA:∀{b:Addr}{o:Obj}{es:Array DictEntry}{ep:Nat},s₁.heap.get? b=some o->o.data=.dict es ep->H b=none:=fun {b o es ep} e d=>by
   cases q:H b with
   |none=>rfl
   | some u =>
     have e':b=a:=hA b (by rw [q];simp)
     subst e'
     rw [ha] at e;cases e
     have d':Data.seq vs.toArray _=Data.dict es ep:=d
     cases d'
  have nsK:∀{b:Addr}{m:Str->Option Value},s₁.heap.Ns b m->(mQ s₁.heap H).Ns b m:=fun {b m} ⟨o,es,ep,e,d,r⟩=>⟨o,es,ep,base_of e (noA e d),d,r⟩
  have hKb:K.In (mQ s₁.heap H):=fun b o e=>base_of (KX b o e) (by
   cases q:H b with
   |none=>rfl
   | some u =>
     have e':b=a:=hA b (by rw [q];simp)
     subst e'
     rw [hK (by rw [q];simp)] at e;cases e)
  have hM:Mod K mg (mQ s₁.heap H):=⟨hKb,nsK hns,⟨mb,nsK hb,hbb⟩,let ⟨mc,h1,h2⟩:=hlim;⟨mc,nsK h1,h2⟩⟩
  have e0:pW P w K mg (mQ s₁.heap H) callerA [] s₁ H:=⟨rfl,hM,fun b o e=>Ef e,Nat.le_of_eq (zT _ _),trivial,fun b hb=>absurd (show b∈([]:List Addr) from hb) (by simp),hok,.of_eq hg⟩
  refine codeAny_mono ((F _ hKb (nsK hns)).run callerA [] s₁ H ⟨[.ref a],[]⟩ [.ref a] [.ref a] _ _ hr e0 (hbind s₁ (.ref a)) (.cons rfl .nil) (hsp H hO hS)) fun r s' h=>?_
  cases r with
  |error e=>exact (hCX H e s' h).elim
  | ok fl =>
    cases fl with
    |next=>exact False.elim h
    |brk=>exact False.elim h
    |cont=>exact False.elim h
    | ret u =>
      obtain ⟨v,H',os,bare,un,hok',r',q⟩:=h
      have q':v=.bl true:=q
      subst q'
      obtain rfl:u=Value.bool true:=r'
      refine ⟨rfl,OldK.of_keep fun b o e=>?_,os,bare⟩
      cases q:H b with
      |none=>exact un.keep b o e q (by intro z;exact absurd (show b∈([]:List Addr) from z) (by simp)) (by simp)
      | some u =>
        rcases hO b with z|⟨ob,xs,z⟩
        ·rw [q] at z;cases z
        ·have z2:=un.frzs b ob _ z
         obtain ⟨e1,_⟩:=hok b _ z
         obtain ⟨e2,_⟩:=hok' b _ z2
         rw [e] at e1;cases e1
         exact e2
 cases hk:K.lookup a with
 | some o =>
   have e:=KX a o hk
   rw [ha] at e
   cases e
   refine core (fun _=>none) (fun _=>.inl rfl) (.inr ⟨_,vs.toArray,_,hk,rfl,rfl,rfl,by rw [List.size_toArray,lenV];exact hl,by simpa using rv⟩) (fun b u z=>by have z':(none:Option HO)=some u:=z;cases z') (fun b z=>absurd rfl z) fun z=>absurd rfl z
 | none =>
   refine core (fun b=>if b=a then some (.frz {cls:=.type "list",data:=.seq vs.toArray} (.lst (ns.map V.int))) else none) (fun b=>?_) (.inl (.inr ⟨{cls:=.type "list",data:=.seq vs.toArray},if_pos rfl⟩)) (fun b u z=>?_) (fun b z=>?_) fun _=>hk
   ·by_cases hb:b=a
    ·exact .inr ⟨_,_,if_pos hb⟩
    ·exact .inl (if_neg hb)
   ·by_cases hb:b=a
    ·have z':=(if_pos hb).symm.trans z
     cases z'
     subst hb
     exact ⟨ha,by rw [List.length_map];exact hl,vs,_,rv,ha⟩
    ·have z':=(if_neg hb).symm.trans z
     cases z'
   ·by_cases hb:b=a
    ·exact hb
    ·exact absurd (if_neg hb) z
end L2
namespace L2
open PySem PySem.Spec PyProof.Rows
theorem Dk {l:PySem.W.OpenLaw}{n k:Nat}{q:Program}{loose:List Str}{XP:(Str->Option Value)->Heap->Prop}{YP:World->Heap->Prop}{d:DefRec}{K:Params->PySem.W.Frag}{CX:World->pf}{sp:World->Sp}{x:Str}
 (hn:l.most=some n) (hn2:n<=sizeLine) (hdf:d.params.defaults=[]) (hr:cC k callerA)
 (hY:∀(w:World) (h:Heap),YP w h->(K w.params).In h)
 (F:∀(w:World) (mg:Str->Option Value) (fa:Addr) (h:Heap),(K w.params).In h->h.Ns mainGlobals mg->mg d.name=some (.ref fa)->
  ∃fd:FuncData,(∀(s:Shared) (u:Value),BindsTo s fd ⟨[u],[]⟩ [(x,u)])/\
   ∀base:Heap,(K w.params).In base->base.Ns mainGlobals mg->lV l.prog w (K w.params) mg base (CX w) k fa fd [x] (sp w))
 (hsp:∀(w:World) (H:Hp) (a:Addr) (ns:List Int),ns.length<=n->yw H->dq (K w.params) H a (ns.map V.int)->sp w [.ref a] H (fun v _=>v=.bl true) fun _ _ _=>False)
 (hCX:∀(w:World) (H:Hp) (s:Shared) (e:Value) (s':Shared),CX w [] H s (fun _ _ _=>False) e s'->False) :
 PySem.W.WalkO q loose XP YP l.row.toRowW d [] (fun f vs=>PySem.call f vs):=by
 refine Att.attach_call hn hdf fun w s₀ s₁ mg mb fa o pm cd doc a vs ns G Y ho hd hcd hmg hobj hints hlen hg=>?_
 have KX:=hY w _ Y
 obtain ⟨fd,hb,hF⟩:=F w mg fa _ KX G.T.g hmg
 exact BP KX G.T.g G.T.b G.T.builtins G.T.nolimit hg hobj hints (tqh hlen hn2) hr hF hb (fun H hO hS=>hsp w H a ns hlen hO hS) fun H e s'=>hCX w H s₁ e s'
end L2
namespace L2
open PySem PySem.Spec PyProof.Rows
def gp (s:Stmt):Arguments:=match s with
 |.FunctionDef _ a _ _ _ _ _ _ _ _=>a
 |_=>{posonlyargs:=[],args:=[],vararg:=none,kwonlyargs:=[],kw_defaults:=[],kwarg:=none,defaults:=[]}
def dH (s:Stmt):List Stmt:=match s with
 |.FunctionDef _ _ b _ _ _ _ _ _ _=>b
 |_=>[]
def aV (s:Stmt):Scope:=match s with
 |.FunctionDef _ _ _ _ _ _ sc _ _ _=>sc
 |_=>{kind:=.function,names:=[],isGenerator:=false,isCoroutine:=false}
abbrev E0:XK:=fun _ _ _=>False
structure pd (K:PySem.W.Frag) (x qual:Str) (st:Stmt) (f:Addr) (fd:FuncData):Prop where
 ex:∃(oc:Value) (od:Option Addr) (kV doc pm:Value) (an:Option Addr) (cdv ct:Value) (osl:Array (Option Value)),
  fd=PySem.W.fnOf x qual (gp st) (dH st) (aV st) .none kV doc pm an cdv ct/\K.lookup f=some ⟨oc,od,.func fd,osl⟩/\PySem.W.codeIn K cdv qual=true
 kp:PySem.W.keepIn K (.ref f)=true
section
variable {P:Program}{w:World}{K:PySem.W.Frag}{mg:Str->Option Value}{base:Heap}
theorem pd.binds {x qual:Str}{st:Stmt}{f:Addr}{fd:FuncData}{ps:List Str}(F:pd K x qual st f fd)
 (h:∀(kV doc pm:Value) (an:Option Addr) (cdv ct:Value) (us:List Value),us.length=ps.length->bindArgs (PySem.W.fnOf x qual (gp st) (dH st) (aV st) .none kV doc pm an cdv ct) ⟨us,[]⟩=pure (ps.zip us)):Binds K fd ps []:=by
 obtain ⟨oc,od,kV,doc,pm,an,cdv,ct,osl,rfl,lk,hcd⟩:=F.ex
 exact .all (h kV doc pm an cdv ct)
theorem zV {x qual:Str}{st:Stmt}{f:Addr}{oc:Value}{od an:Option Addr}{osl:Array (Option Value)}{kV doc pm cdv ct:Value}(l:K.lookup f=some ⟨oc,od,.func (PySem.W.fnOf x qual (gp st) (dH st) (aV st) .none kV doc pm an cdv ct),osl⟩)
 (c:PySem.W.codeIn K cdv qual=true) (k:PySem.W.keepIn K (.ref f)=true):pd K x qual st f (PySem.W.fnOf x qual (gp st) (dH st) (aV st) .none kV doc pm an cdv ct):=⟨⟨oc,od,kV,doc,pm,an,cdv,ct,osl,rfl,l,c⟩,k⟩
end
theorem cQ {A:Around}{k:Nat}(hr:cC k A):A.units+1<cLine:=Nat.lt_of_le_of_lt (Nat.add_le_add_left (by decide:1<=64) _) hr.units
theorem vk {c A B:Prop}[Decidable c](h1:c->A)(h2:¬ c->B):if c then A else B:=by
 by_cases h:c
 ·rw [if_pos h]
  exact h1 h
 ·rw [if_neg h]
  exact h2 h
end L2
namespace LD
open PySem
inductive D where
 |non|bl (b:Bool)|int (i:Int)|str (x:Str)|tup (ds:List D)|lst (ds:List D)|frz (ds:List D)|cell (k:Nat)|fn (f:Nat)|exc (c:Nat) (p:Option Int)
 deriving Inhabited
abbrev Mem:=List (List D)
abbrev Env:=List (Option D)
inductive Res (α:Type) where
 |ok (a:α) (M:Mem)
 |err (x:D) (M:Mem)
 |bad
def Res.bind {α β:Type}(r:Res α)(f:α->Mem->Res β):Res β:=match r with
 |.ok a M=>f a M
 |.err x M=>.err x M
 |.bad=>.bad
@[simp] theorem Res.bind_ok {α β:Type}(a:α)(M:Mem)(f:α->Mem->Res β):(Res.ok a M).bind f=f a M:=rfl
@[simp] theorem Res.bind_err {α β:Type}(x:D)(M:Mem)(f:α->Mem->Res β):(Res.err x M:Res α).bind f=.err x M:=rfl
@[simp] theorem Res.bind_bad {α β:Type}(f:α->Mem->Res β):(Res.bad:Res α).bind f=.bad:=rfl
inductive ph where
 |add|sub|mul|fdiv|mod|pow
 deriving DecidableEq
inductive iM where
 |eq|ne|lt|le|gt|ge|isN|notN|isin|notin
 deriving DecidableEq
inductive Ty where
 |int|bool|str|tuple|list|own (c:Str)
 deriving DecidableEq
inductive vH where
 |len|tuple|list (m:Bool)|listR (m:Bool)|all|sum|repr
 deriving DecidableEq
inductive dN where
 |one (i:Nat)
 |tup (l:List Nat)
noncomputable def sz:Nat:=16777216
def bQ (m:Bool)(ds:List D)(M:Mem):Res D:=if ds.length<=sz then (if m then .ok (.cell M.length) (M++[ds]) else .ok (.lst ds) M) else .bad
def mM (ds:List D)(M:Mem):Res D:=if ds.length<=sz then .ok (.tup ds) M else .bad
def cL (M:Mem):D->Option (List D)
 |.lst ds=>some ds
 |.tup ds=>some ds
 |.frz ds=>some ds
 |.cell k=>M[k]?
 |_=>none
def gD (M:Mem):D->Option (List D)
 |.lst ds=>some ds
 |.frz ds=>some ds
 |.cell k=>M[k]?
 |_=>none
def kW (M:Mem):D->Option (List D)
 |.lst ds=>some ds
 |.cell k=>M[k]?
 |_=>none
def aK:Nat->D->Bool
 |_,.non=>true
 |_,.bl _=>true
 |_,.int _=>true
 |_,.str x=>x.cps.all (· < 0x110000)
 |n+1,.tup ds=>ds.all (aK n)
 |n+1,.lst ds=>ds.all (aK n)
 |0,.tup _=>false
 |0,.lst _=>false
 |_,.frz _=>false
 |_,.cell _=>false
 |_,.fn _=>false
 |_,.exc _ _=>false
mutual
def bH:D->D->Bool
 |.non,.non=>true
 |.bl a,.bl b=>a==b
 |.bl a,.int b=>(if a then 1 else 0)==b
 |.int a,.bl b=>a==(if b then 1 else 0)
 |.int a,.int b=>a==b
 |.str a,.str b=>a==b
 |.tup a,.tup b=>n5 a b
 |.lst a,.lst b=>n5 a b
 |_,_=>false
def n5:List D->List D->Bool
 |[],[]=>true
 |a::r,b::t=>bH a b&&n5 r t
 |[],_::_=>false
 |_::_,[]=>false
end
def jm:D->Bool
 |.str _=>true
 |_=>false
def qQ (a b:D):Option Bool:=if jm a&&jm b||aK 64 a&&aK 64 b then some (bH a b) else none
def view (M:Mem):D->D
 | .cell k => match M[k]? with
   |some ds=>.lst ds
   |none=>.cell k
 |.frz ds=>.lst ds
 |d=>d
def cP:Nat->Mem->D->D
 |0,_,d=>d
 | n + 1, M, .cell k => match M[k]? with
   |some ds=>.lst (ds.map (cP n M))
   |none=>.cell k
 |n+1,M,.frz ds=>.lst (ds.map (cP n M))
 |n+1,M,.lst ds=>.lst (ds.map (cP n M))
 |n+1,M,.tup ds=>.tup (ds.map (cP n M))
 |_+1,_,d=>d
def mi (M:Mem)(a b:D):Option Bool:=match qQ (view M a) (view M b) with
 |some r=>some r
 |none=>qQ (cP 64 M a) (cP 64 M b)
def lN (M:Mem):D->Option Bool
 |.non=>some false
 |.bl b=>some b
 |.int i=>some (i != 0)
 |.str x=>if x.cps.size<=sz then some (x.cps.size != 0) else none
 |.tup ds=>some (!ds.isEmpty)
 |.lst ds=>some (!ds.isEmpty)
 |.frz ds=>some (!ds.isEmpty)
 |.cell k=>(M[k]?).map fun ds=>!ds.isEmpty
 |.fn _=>none
 |.exc _ _=>none
def bR (n:Nat)(i:Int):Option Nat:=if 0<=i then (if i<n then some i.toNat else none) else if -(n:Int)<=i then some (i+n).toNat else none
def fH (m:Bool)(o:ph)(a b:D)(M:Mem):Res D:=match o,a,b with
 |.add,.int i,.int j=>.ok (.int (i+j)) M
 |.add,.str x,.str y=>if x.cps.size+y.cps.size<=sz then .ok (.str ⟨x.cps++y.cps⟩) M else .bad
 |.add,.tup x,.tup y=>mM (x++y) M
 | .add, a, b => match kW M a, kW M b with
   |some x,some y=>bQ m (x++y) M
   |_,_=>.bad
 |.sub,.int i,.int j=>.ok (.int (i-j)) M
 |.mul,.int i,.int j=>if (-(2^64)<i/\i<2^64)\/(-(2^64)<j/\j<2^64) then .ok (.int (i*j)) M else .bad
 |.mul,.tup x,.int j=>if x.length*j.toNat<=sz/\-(2^63)<=j/\j<2^63 then .ok (.tup (List.replicate j.toNat x).flatten) M else .bad
 | .mul, a, .int j => match kW M a with
   |some x=>if x.length*j.toNat<=sz/\-(2^63)<=j/\j<2^63 then bQ m (List.replicate j.toNat x).flatten M else .bad
   |none=>.bad
 |.fdiv,.int i,.int j=>if 0<j/\j<1073741824 then .ok (.int (i / j)) M else .bad
 |.mod,.int i,.int j=>if 0<j then .ok (.int (i % j)) M else .bad
 |.pow,.int i,.int j=>if 0<=j/\j<=1000000/\i.natAbs<2^64 then .ok (.int (i^j.toNat)) M else .bad
 |_,_,_=>.bad
def jc (x:D)(ds:List D):Option Bool:=if aK 64 x&&ds.all (aK 63) then some (ds.any fun y=>bH y x) else none
def ky (x y:Str):Bool:=!(Builtin.Str.occurrences y x 0 y.length 1).isEmpty
def lG:D->Bool
 |.non=>true
 |_=>false
def bU (o:iM)(a b:D)(M:Mem):Option Bool:=match o,a,b with
 |.eq,a,b=>mi M a b
 |.ne,a,b=>(mi M a b).map (!·)
 |.lt,.int i,.int j=>some (decide (i<j))
 |.le,.int i,.int j=>some (decide (i<=j))
 |.gt,.int i,.int j=>some (decide (j<i))
 |.ge,.int i,.int j=>some (decide (j<=i))
 |.isN,a,.non=>some (lG a)
 |.notN,a,.non=>some (!lG a)
 |.isin,.str x,.str y=>some (ky x y)
 |.notin,.str x,.str y=>some (!ky x y)
 |.isin,a,b=>(cL M b).bind (jc (view M a))
 |.notin,a,b=>((cL M b).bind (jc (view M a))).map (!·)
 |_,_,_=>none
def fo (a i:D)(M:Mem):Option D:=match a,i with
 |.str x,.int i=>if x.cps.size<=sz then (bR x.cps.size i).bind fun j=>(x.cps[j]?).map fun c=>.str ⟨#[c]⟩ else none
 |a,.int i=>(cL M a).bind fun ds=>(bR ds.length i).bind fun j=>ds[j]?
 |_,_=>none
def a8 (n d:Nat):D->Option Nat
 |.non=>some d
 |.int v=>some (if v<0 then (v+(n:Int)).toNat else min v.toNat n)
 |_=>none
def cy:Bool->D->Bool
 |true,.int _=>true
 |false,.non=>true
 |_,_=>false
def cut {α:Type}(xs:List α)(lo hi:Nat):List α:=(xs.drop lo).take (hi-lo)
def eK (m:Bool)(a lo hi:D)(M:Mem):Res D:=match a with
 | .tup xs => match a8 xs.length 0 lo, a8 xs.length xs.length hi with
   |some l,some h=>.ok (.tup (cut xs l h)) M
   |_,_=>.bad
 | a => match gD M a with
   | some xs => match a8 xs.length 0 lo, a8 xs.length xs.length hi with
     |some l,some h=>bQ m (cut xs l h) M
     |_,_=>.bad
   |none=>.bad
def bZ (t:Ty):D->Option Bool
 |.non=>some false
 |.bl _=>some (t==.bool||t==.int)
 |.int _=>some (t==.int)
 |.str _=>some (t==.str)
 |.tup _=>some (t==.tuple)
 |.lst _=>some (t==.list)
 |.frz _=>some (t==.list)
 |.cell _=>some (t==.list)
 |.fn _=>none
 |.exc _ _=>none
def boolsOf:List D->Option (List Bool)
 |[]=>some []
 |.bl b::r=>(boolsOf r).map (b::·)
 |_=>none
def intsOf:List D->Option (List Int)
 |[]=>some []
 |.int b::r=>(intsOf r).map (b::·)
 |_=>none
def gM (f:vH)(ds:List D)(M:Mem):Res D:=match f,ds with
 |.len,[.str x]=>if x.cps.size<=sz then .ok (.int x.cps.size) M else .bad
 | .len, [d] => match cL M d with
   |some xs=>.ok (.int xs.length) M
   |none=>.bad
 |.tuple,[.tup xs]=>.ok (.tup xs) M
 | .tuple, [d] => match gD M d with
   |some xs=>.ok (.tup xs) M
   |none=>.bad
 | .list m, [d] => match cL M d with
   |some xs=>bQ m xs M
   |none=>.bad
 |.listR m,[.int n]=>if n<2^20 then bQ m ((List.range n.toNat).map fun (k:Nat)=>D.int (k:Int)) M else .bad
 | .all, [d] => match gD M d with
   | some xs => match boolsOf xs with
     |some bs=>.ok (.bl (bs.all id)) M
     |none=>.bad
   |none=>.bad
 | .sum, [d] => match gD M d with
   | some xs => match intsOf xs with
     |some is=>.ok (.int is.sum) M
     |none=>.bad
   |none=>.bad
 |_,_=>.bad
def gG:List Nat->List D->Env->Option Env
 |[],[],Z=>some Z
 |i::l,d::ds,Z=>gG l ds (Z.set i (some d))
 |_,_,_=>none
def dw (t:dN)(d:D)(Z:Env):Option Env:=match t,d with
 |.one i,d=>some (Z.set i (some d))
 |.tup l,.tup ds=>gG l ds Z
 |.tup _,_=>none
abbrev Walk:=Mem->Option (List D)
def dD:Nat->List D->List D
 |_,[]=>[]
 |k,d::r=>.tup [.int k,d]::dD (k+1) r
def j4:List D->List D->List D
 |a::r,b::t=>.tup [a,b]::j4 r t
 |_,_=>[]
def Ct:List D->List D->List D->List D
 |a::r,b::t,c::q=>.tup [a,b,c]::Ct r t q
 |_,_,_=>[]
def C3 {α:Type}(f:α->D->Mem->Res α):List D->α->Mem->Res α
 |[],a,M=>.ok a M
 |d::r,a,M=>(f a d M).bind (C3 f r)
def fR {α:Type}(f:α->D->Mem->Res α)(w:Walk):Nat->Nat->α->Mem->Res α
 |0,_,_,_=>.bad
 | n + 1, i, a, M => match w M with
   |none=>.bad
   | some ds => match ds[i]? with
     |none=>.ok a M
     |some d=>(f a d M).bind (fR f w n (i+1))
def d3 {α:Type}(f:α->D->Mem->Res α)(w:Walk)(a:α)(M:Mem):Res α:=fR f w (((w M).getD []).length+1) 0 a M
def dg {α:Type}(M:Mem):Option α->Res α
 |some a=>.ok a M
 |none=>.bad
@[simp] theorem Bu {α:Type}(M:Mem)(a:α):dg M (some a)=.ok a M:=rfl
@[simp] theorem Ld {α:Type}(M:Mem):(dg M none:Res α)=.bad:=rfl
inductive Fl where
 |next (Z:Env)
 |ret (d:D)
 |exc (x:D) (Z:Env)
end LD
namespace LD
open PySem PySem.Spec PyProof.Rows L2
structure Mu where
 pub:Nat->Option Addr
 priv:List Addr
def Mu.Mt (μ:Mu)(a:Addr):Prop:=(∃k,μ.pub k=some a)\/a∈μ.priv
abbrev Fa:=Nat->Option Addr
def KL (K:PySem.W.Frag)(a:Addr)(xs:List V):Prop:=
 ∃(o:Obj) (its:Array Value) (n:Nat),K.lookup a=some o/\o.cls=.type "list"/\o.dict=none/\o.data=.seq its n/\its.size<=sizeLine/\Vals xs its.toList
def wV (C:Addr)(dx:Option Addr)(a:Addr)(h:Heap):Prop:=∃o vs,h.get? a=some o/\o.cls=.ref C/\o.dict=dx/\o.data=.fields vs/\1<vs.size
def gq (c:Nat):Str:=if c=1 then "number" else "place"
def yu (H:Hp)(c:Nat)(dx:Option Addr):Option Int->Prop
 |none=>dx=none
 |some i=>∃d,dx=some d/\H d=some (.xd [(gq c,.int i)])
def dE (c:Nat):Nat:=1000+c
section
variable (fa:Fa)(K:PySem.W.Frag)(μ:Mu)(H:Hp)
mutual
def Rep:D->V->Prop
 |.non,v=>v=.non
 |.bl b,v=>v=.bl b
 |.int i,v=>v=.int i
 |.str x,v=>v=.str x
 |.tup ds,v=>∃a vs,v=.ref a/\eD K H a vs/\a9 ds vs
 |.lst ds,v=>∃a vs,v=.ref a/\(H a=some (.lst vs)/\¬ μ.Mt a)/\a9 ds vs
 |.frz ds,v=>∃a vs,v=.ref a/\((∃ob,H a=some (.frz ob (.lst vs)))\/KL K a vs)/\a9 ds vs
 |.cell k,v=>∃a,v=.ref a/\μ.pub k=some a
 |.fn f,v=>∃a,v=.ref a/\fa f=some a
 |.exc c p,v=>∃a C dx,v=.ref a/\fa (dE c)=some C/\H a=some (.ext (wV C dx a))/\yu H c dx p
def a9:List D->List V->Prop
 |[],vs=>vs=[]
 |d::ds,vs=>∃v r,vs=v::r/\Rep d v/\a9 ds r
end
end
def IsX (o:HO):Prop:=(∃φ,o=.ext φ)\/∃fs,o=.xd fs
structure ExtW (μ:Mu) (H:Hp) (μ':Mu) (H':Hp):Prop where
 mu:∀k a,μ.pub k=some a->μ'.pub k=some a
 tups:∀a vs,Rd H a (.tup vs)->Rd H' a (.tup vs)
 lsts:∀a vs,H a=some (.lst vs)->¬ μ.Mt a->H' a=some (.lst vs)/\¬ μ'.Mt a
 frzs:∀a ob u,H a=some (.frz ob u)->H' a=some (.frz ob u)
 exts:∀a o,IsX o->H a=some o->H' a=some o
structure Ext (μ:Mu) (H:Hp) (μ':Mu) (H':Hp):Prop extends ExtW μ H μ' H' where
 pr:μ'.priv=μ.priv
 pk:∀a∈μ.priv,H' a=H a
theorem ExtW.refl {μ:Mu}{H:Hp}:ExtW μ H μ H:=⟨fun _ _ h=>h,fun _ _ h=>h,fun _ _ h n=>⟨h,n⟩,fun _ _ _ h=>h,fun _ _ _ h=>h⟩
theorem ExtW.trans {μ μ1 μ2:Mu}{H H1 H2:Hp}(a:ExtW μ H μ1 H1)(b:ExtW μ1 H1 μ2 H2):ExtW μ H μ2 H2:=
 ⟨fun k x h=>b.mu k x (a.mu k x h),fun x vs h=>b.tups x vs (a.tups x vs h),fun x vs h n=>b.lsts x vs (a.lsts x vs h n).1 (a.lsts x vs h n).2,fun x ob u h=>b.frzs x ob u (a.frzs x ob u h),fun x o i h=>b.exts x o i (a.exts x o i h)⟩
theorem Ext.refl {μ:Mu}{H:Hp}:Ext μ H μ H:=⟨.refl,rfl,fun _ _=>rfl⟩
theorem Ext.trans {μ μ1 μ2:Mu}{H H1 H2:Hp}(a:Ext μ H μ1 H1)(b:Ext μ1 H1 μ2 H2):Ext μ H μ2 H2:=
 ⟨a.toExtW.trans b.toExtW,b.pr.trans a.pr,fun x hx=>(b.pk x (by rw [a.pr];exact hx)).trans (a.pk x hx)⟩
section
variable {fa:Fa}{K:PySem.W.Frag}{μ μ':Mu}{H H':Hp}
theorem ExtW.sqT {a:Addr}{vs:List V}(x:ExtW μ H μ' H')(h:eD K H a vs):eD K H' a vs:=h.elim (fun z=>.inl (x.tups a vs z)) .inr
mutual
theorem Rep.extW (x:ExtW μ H μ' H'):∀{d:D}{v:V},Rep fa K μ H d v->Rep fa K μ' H' d v
 |.non,v,h=>h
 |.bl b,v,h=>h
 |.int i,v,h=>h
 |.str y,v,h=>h
 | .tup ds, v, h => by
   obtain ⟨a,vs,e,s,r⟩:=h
   exact ⟨a,vs,e,x.sqT s,a9.extW x r⟩
 | .lst ds, v, h => by
   obtain ⟨a,vs,e,s,r⟩:=h
   exact ⟨a,vs,e,x.lsts a vs s.1 s.2,a9.extW x r⟩
 | .frz ds, v, h => by
   obtain ⟨a,vs,e,s,r⟩:=h
   exact ⟨a,vs,e,s.elim (fun ⟨ob,z⟩=>.inl ⟨ob,x.frzs a ob _ z⟩) .inr,a9.extW x r⟩
 | .cell k, v, h => by
   obtain ⟨a,e,m⟩:=h
   exact ⟨a,e,x.mu k a m⟩
 |.fn f,v,h=>h
 | .exc c p, v, h => by
   obtain ⟨a,C,dx,e,f,g,n⟩:=h
   refine ⟨a,C,dx,e,f,x.exts _ _ (.inl ⟨_,rfl⟩) g,?_⟩
   cases p with
   |none=>exact n
   |some i=>exact let ⟨d,h1,h2⟩:=n;⟨d,h1,x.exts _ _ (.inr ⟨_,rfl⟩) h2⟩
theorem a9.extW (x:ExtW μ H μ' H'):∀{ds:List D}{vs:List V},a9 fa K μ H ds vs->a9 fa K μ' H' ds vs
 |[],vs,h=>h
 | d :: ds, vs, h => by
   obtain ⟨v,r,e,p,q⟩:=h
   exact ⟨v,r,e,Rep.extW x p,a9.extW x q⟩
end
theorem Rep.ext (x:Ext μ H μ' H'){d:D}{v:V}(h:Rep fa K μ H d v):Rep fa K μ' H' d v:=Rep.extW x.toExtW h
theorem a9.ext (x:Ext μ H μ' H'){d:List D}{v:List V}(h:a9 fa K μ H d v):a9 fa K μ' H' d v:=a9.extW x.toExtW h
theorem a9.length:∀{ds:List D}{vs:List V},a9 fa K μ H ds vs->vs.length=ds.length
 | [], vs, h => by
   have h:vs=[]:=h
   subst h;rfl
 | d :: ds, vs, h => by
   obtain ⟨v,r,e,p,q⟩:=h
   subst e
   simp [a9.length q]
theorem a9.get:∀{ds:List D}{vs:List V}{i:Nat}{d:D},a9 fa K μ H ds vs->ds[i]?=some d->∃v,vs[i]?=some v/\Rep fa K μ H d v
 |[],_,_,_,_,e=>by simp at e
 | d :: ds, vs, 0, d', h, e => by
   obtain ⟨v,r,rfl,p,q⟩:=h
   simp at e;subst e
   exact ⟨v,rfl,p⟩
 | d :: ds, vs, i + 1, d', h, e => by
   obtain ⟨v,r,rfl,p,q⟩:=h
   obtain ⟨u,h1,h2⟩:=a9.get (i:=i) q (by simpa using e)
   exact ⟨u,by simpa using h1,h2⟩
theorem a9.append:∀{ds es:List D}{vs ws:List V},a9 fa K μ H ds vs->a9 fa K μ H es ws->a9 fa K μ H (ds++es) (vs++ws)
 | [], _, vs, _, h, g => by
   have h:vs=[]:=h
   subst h;exact g
 | d :: ds, es, vs, ws, h, g => by
   obtain ⟨v,r,rfl,p,q⟩:=h
   exact ⟨v,r++ws,rfl,p,a9.append q g⟩
theorem a9.one {d:D}{v:V}(h:Rep fa K μ H d v):a9 fa K μ H [d] [v]:=⟨v,[],rfl,h,rfl⟩
theorem a9.drop:∀(n:Nat) {ds:List D}{vs:List V},a9 fa K μ H ds vs->a9 fa K μ H (ds.drop n) (vs.drop n)
 |0,_,_,h=>h
 | n + 1, [], vs, h => by
   have h:vs=[]:=h
   subst h;exact rfl
 | n + 1, d :: ds, vs, h => by
   obtain ⟨v,r,rfl,p,q⟩:=h
   exact a9.drop n q
theorem a9.take:∀(n:Nat) {ds:List D}{vs:List V},a9 fa K μ H ds vs->a9 fa K μ H (ds.take n) (vs.take n)
 |0,_,_,h=>rfl
 | n + 1, [], vs, h => by
   have h:vs=[]:=h
   subst h;exact rfl
 | n + 1, d :: ds, vs, h => by
   obtain ⟨v,r,rfl,p,q⟩:=h
   exact ⟨v,r.take n,rfl,p,a9.take n q⟩
theorem a9.set:∀(n:Nat) {ds:List D}{vs:List V}{d:D}{v:V},a9 fa K μ H ds vs->Rep fa K μ H d v->a9 fa K μ H (ds.set n d) (vs.set n v)
 | _, [], vs, _, _, h, _ => by
   have h:vs=[]:=h
   subst h;exact rfl
 | 0, d :: ds, vs, _, v', h, g => by
   obtain ⟨v,r,rfl,p,q⟩:=h
   exact ⟨v',r,rfl,g,q⟩
 | n + 1, d :: ds, vs, _, v', h, g => by
   obtain ⟨v,r,rfl,p,q⟩:=h
   exact ⟨v,r.set n v',rfl,p,a9.set n q g⟩
theorem a9.reverse:∀{ds:List D}{vs:List V},a9 fa K μ H ds vs->a9 fa K μ H ds.reverse vs.reverse
 | [], vs, h => by
   have h:vs=[]:=h
   subst h;exact rfl
 | d :: ds, vs, h => by
   obtain ⟨v,r,rfl,p,q⟩:=h
   rw [List.reverse_cons,List.reverse_cons]
   exact a9.append (a9.reverse q) (.one p)
theorem a9.rep:∀(n:Nat) {ds:List D}{vs:List V},a9 fa K μ H ds vs->a9 fa K μ H (List.replicate n ds).flatten (List.replicate n vs).flatten
 |0,_,_,_=>rfl
 | n + 1, ds, vs, h => by
   rw [List.replicate_succ,List.replicate_succ,List.flatten_cons,List.flatten_cons]
   exact h.append (a9.rep n h)
theorem a9.ints:∀(ns:List Int),a9 fa K μ H (ns.map D.int) (ns.map V.int)
 |[]=>rfl
 |n::ns=>⟨.int n,ns.map V.int,rfl,rfl,a9.ints ns⟩
end
structure RelM (fa:Fa) (K:PySem.W.Frag) (μ:Mu) (H:Hp) (M:Mem):Prop where
 at':∀(k:Nat) (ds:List D),M[k]?=some ds->∃a vs,μ.pub k=some a/\H a=some (.lst vs)/\a9 fa K μ H ds vs
 out:∀(k:Nat),M.length<=k->μ.pub k=none
 inj:∀j k a,μ.pub j=some a->μ.pub k=some a->j=k
 pv:∀a∈μ.priv,(∃vs,H a=some (.lst vs))/\∀k,μ.pub k≠some a
structure bK (fa:Fa) (K:PySem.W.Frag) (μ:Mu) (H:Hp) (σ:L2.St) (Z:Env):Prop where
 len:σ.length=Z.length
 at':∀(i:Nat) (d:D),Z[i]?=some (some d)->∃v,σ[i]?=some (some v)/\Rep fa K μ H d v
section
variable {fa:Fa}{K:PySem.W.Frag}{μ μ':Mu}{H H':Hp}{σ:L2.St}{Z:Env}{M:Mem}
theorem bK.ext (h:bK fa K μ H σ Z)(x:Ext μ H μ' H'):bK fa K μ' H' σ Z:=
 ⟨h.len,fun i d e=>let ⟨v,h1,h2⟩:=h.at' i d e;⟨v,h1,h2.ext x⟩⟩
theorem bK.set (h:bK fa K μ H σ Z){i:Nat}{d:D}{v:V}(r:Rep fa K μ H d v):bK fa K μ H (σ.set i (some v)) (Z.set i (some d)):=by
 refine ⟨by simp [h.len],fun j d' e=>?_⟩
 by_cases hj:j=i
 ·subst hj
  have hl:j<Z.length:=by
   have:=(List.getElem?_eq_some_iff.mp e).1
   simpa using this
  rw [List.getElem?_set_self hl] at e
  cases e
  exact ⟨v,List.getElem?_set_self (by rw [h.len];exact hl),r⟩
 ·rw [List.getElem?_set_ne (Ne.symm hj)] at e
  obtain ⟨u,h1,h2⟩:=h.at' j d' e
  exact ⟨u,by rw [List.getElem?_set_ne (Ne.symm hj)];exact h1,h2⟩
theorem bK.extW (h:bK fa K μ H σ Z)(x:ExtW μ H μ' H'):bK fa K μ' H' σ Z:=
 ⟨h.len,fun i d e=>let ⟨v,h1,h2⟩:=h.at' i d e;⟨v,h1,h2.extW x⟩⟩
theorem RelM.mu_lt (h:RelM fa K μ H M){k:Nat}{a:Addr}(e:μ.pub k=some a):∃ds vs,M[k]?=some ds/\H a=some (.lst vs)/\a9 fa K μ H ds vs:=by
 by_cases hk:k<M.length
 ·obtain ⟨a',vs,h1,h2,h3⟩:=h.at' k M[k] (by simp [hk])
  rw [e] at h1;cases h1
  exact ⟨_,vs,by simp [hk],h2,h3⟩
 ·rw [h.out k (by omega)] at e;cases e
theorem RelM.fresh (h:RelM fa K μ H M){p:Addr}(hp:H p=none):¬ μ.Mt p:=fun e=>by
 rcases e with ⟨k,e⟩|e
 ·obtain ⟨ds,vs,_,h2,_⟩:=h.mu_lt e
  rw [hp] at h2;cases h2
 ·obtain ⟨⟨vs,h2⟩,_⟩:=h.pv p e
  rw [hp] at h2;cases h2
theorem RelM.pne (h:RelM fa K μ H M){p a:Addr}(hp:H p=none)(ha:a∈μ.priv):a≠p:=fun e=>by
 obtain ⟨⟨vs,h2⟩,_⟩:=h.pv a ha
 rw [e,hp] at h2;cases h2
theorem Ext.alloc {p:Addr}{o:HO}(h:RelM fa K μ H M)(hp:H p=none):Ext μ H μ (upd H p o):=by
 have rd:∀a u,Rd H a u->Rd (upd H p o) a u:=fun a u h=>by
  rcases h with h|⟨ob,h⟩
  ·exact .inl (by rw [aX (bz h hp)];exact h)
  ·exact .inr ⟨ob,by rw [aX (bz h hp)];exact h⟩
 exact ⟨⟨fun _ _ h=>h,fun a vs h=>rd a _ h,fun a vs h n=>⟨by rw [aX (bz h hp)];exact h,n⟩,fun a ob u h=>by rw [aX (bz h hp)];exact h,fun a o _ h=>by rw [aX (bz h hp)];exact h⟩,rfl,fun a ha=>by rw [aX (h.pne hp ha)]⟩
theorem RelM.alloc (h:RelM fa K μ H M){p:Addr}{o:HO}(hp:H p=none):RelM fa K μ (upd H p o) M:=
 ⟨fun k ds e=>let ⟨a,vs,h1,h2,h3⟩:=h.at' k ds e;⟨a,vs,h1,by rw [aX (bz h2 hp)];exact h2,h3.ext (Ext.alloc h hp)⟩,h.out,h.inj,fun a ha=>⟨let ⟨⟨vs,e⟩,_⟩:=h.pv a ha;⟨vs,by rw [aX (h.pne hp ha)];exact e⟩,(h.pv a ha).2⟩⟩
def gY (μ:Mu)(n:Nat)(p:Addr):Mu:=⟨fun k=>if k=n then some p else μ.pub k,μ.priv⟩
theorem Ext.cell {p:Addr}{o:HO}(h:RelM fa K μ H M)(hp:H p=none):Ext μ H (gY μ M.length p) (upd H p o):=by
 have rd:∀a u,Rd H a u->Rd (upd H p o) a u:=fun a u h=>by
  rcases h with h|⟨ob,h⟩
  ·exact .inl (by rw [aX (bz h hp)];exact h)
  ·exact .inr ⟨ob,by rw [aX (bz h hp)];exact h⟩
 refine ⟨⟨fun k a e=>?_,fun a vs g=>rd a _ g,fun a vs g n=>⟨by rw [aX (bz g hp)];exact g,fun e=>?_⟩,fun a ob u h=>by rw [aX (bz h hp)];exact h,fun a o _ h=>by rw [aX (bz h hp)];exact h⟩,rfl,fun a ha=>by rw [aX (h.pne hp ha)]⟩
 ·show (if k=M.length then some p else μ.pub k)=some a
  split
  ·next q=>rw [q,h.out _ (tqg _)] at e;cases e
  ·exact e
 ·rcases e with ⟨k,e⟩|e
  ·have e:(if k=M.length then some p else μ.pub k)=some a:=e
   split at e
   ·cases e;exact bz g hp rfl
   ·exact n (.inl ⟨k,e⟩)
  ·exact n (.inr e)
theorem RelM.cell (h:RelM fa K μ H M){p:Addr}{ds:List D}{vs:List V}(hp:H p=none)(r:a9 fa K μ H ds vs) :
 RelM fa K (gY μ M.length p) (upd H p (.lst vs)) (M++[ds]):=by
 have x:Ext μ H (gY μ M.length p) (upd H p (.lst vs)):=Ext.cell h hp
 have np:=h.fresh hp
 refine ⟨fun k ds' e=>?_,fun k hk=>?_,fun j k a h1 h2=>?_,fun a ha=>?_⟩
 ·by_cases hk:k<M.length
  ·rw [List.getElem?_append_left hk] at e
   obtain ⟨a,ws,h1,h2,h3⟩:=h.at' k ds' e
   exact ⟨a,ws,x.mu k a h1,by rw [aX (bz h2 hp)];exact h2,h3.ext x⟩
  ·have hk':k=M.length:=by
    have:=(List.getElem?_eq_some_iff.mp e).1
    simp at this;omega
   subst hk'
   rw [List.getElem?_append_right (tqg _)] at e
   simp at e
   subst e
   exact ⟨p,vs,by simp [gY],cn,r.ext x⟩
 ·simp at hk
  show (if k=M.length then some p else μ.pub k)=none
  rw [if_neg (by omega)]
  exact h.out k (by omega)
 ·have h1:(if j=M.length then some p else μ.pub j)=some a:=h1
  have h2:(if k=M.length then some p else μ.pub k)=some a:=h2
  split at h1<;>split at h2
  ·omega
  ·cases h1;exact absurd (.inl ⟨k,h2⟩) np
  ·cases h2;exact absurd (.inl ⟨j,h1⟩) np
  ·exact h.inj j k a h1 h2
 ·obtain ⟨⟨ws,e⟩,n⟩:=h.pv a ha
  refine ⟨⟨ws,by rw [aX (h.pne hp ha)];exact e⟩,fun k e2=>?_⟩
  have e2:(if k=M.length then some p else μ.pub k)=some a:=e2
  split at e2
  ·cases e2;exact h.pne hp ha rfl
  ·exact n k e2
theorem ExtW.write {a:Addr}{vs ws:List V}(h2:H a=some (.lst vs))(e:μ.Mt a):ExtW μ H μ (upd H a (.lst ws)):=by
 have ne:∀b u,Rd H b u->(∀xs,u≠.lst xs)->b≠a:=fun b u g nu q=>by
  subst q
  rcases g with g|⟨ob,g⟩
  ·rw [h2] at g;cases g;exact nu _ rfl
  ·rw [h2] at g;cases g
 have rd:∀b u,b≠a->Rd H b u->Rd (upd H a (.lst ws)) b u:=fun b u nb g=>by
  rcases g with g|⟨ob,g⟩
  ·exact .inl (by rw [aX nb];exact g)
  ·exact .inr ⟨ob,by rw [aX nb];exact g⟩
 exact ⟨fun _ _ q=>q,fun b us g=>rd b _ (ne b _ g (fun xs q=>by cases q)) g,fun b us g n=>⟨by rw [aX (fun q=>n (by rw [q];exact e))];exact g,n⟩,fun b ob u g=>by rw [aX (fun q=>by rw [q,h2] at g;cases g)];exact g,fun b o i g=>by rw [aX (fun q=>by rw [q,h2] at g;cases g;rcases i with ⟨_,i⟩|⟨_,i⟩<;>cases i)];exact g⟩
theorem Ext.write {k:Nat}{a:Addr}{vs ws:List V}(h:RelM fa K μ H M)(e:μ.pub k=some a):Ext μ H μ (upd H a (.lst ws)):=by
 obtain ⟨ds,vs,_,h2,_⟩:=h.mu_lt e
 exact ⟨ExtW.write h2 (.inl ⟨k,e⟩),rfl,fun b hb=>by rw [aX (fun q=>(h.pv b hb).2 k (by rw [q];exact e))]⟩
theorem RelM.write (h:RelM fa K μ H M){k:Nat}{a:Addr}{ds:List D}{ws:List V}(e:μ.pub k=some a)(r:a9 fa K μ H ds ws):RelM fa K μ (upd H a (.lst ws)) (M.set k ds):=by
 have x:Ext μ H μ (upd H a (.lst ws)):=Ext.write (vs:=ws) h e
 refine ⟨fun j es q=>?_,fun j hj=>h.out j (by simpa using hj),h.inj,fun b hb=>⟨let ⟨⟨vs,g⟩,_⟩:=h.pv b hb;⟨vs,by rw [x.pk b hb];exact g⟩,(h.pv b hb).2⟩⟩
 by_cases hj:j=k
 ·subst hj
  have hl:j<M.length:=by have:=(List.getElem?_eq_some_iff.mp q).1;simpa using this
  rw [List.getElem?_set_self hl] at q
  cases q
  exact ⟨a,ws,e,cn,r.ext x⟩
 ·rw [List.getElem?_set_ne (Ne.symm hj)] at q
  obtain ⟨b,vs,h1,h2,h3⟩:=h.at' j es q
  have nb:b≠a:=fun z=>hj (h.inj j k a (z ▸ h1) e)
  exact ⟨b,vs,h1,by rw [aX nb];exact h2,h3.ext x⟩
end
def aq {α:Type}(r:Res α)(k:α->Mem->Prop):Prop:=match r with
 |.ok a M=>k a M
 |_=>False
theorem bp {α β:Type}{r:Res α}{f:α->Mem->Res β}{k:β->Mem->Prop}(h:aq (r.bind f) k):∃a M,r=.ok a M/\aq (f a M) k:=by
 cases r with
 |ok a M=>exact ⟨a,M,rfl,h⟩
 |err=>exact h.elim
 |bad=>exact h.elim
theorem ow {α:Type}{M:Mem}{o:Option α}{k:α->Mem->Prop}(h:aq (dg M o) k):∃a,o=some a/\k a M:=by
 cases o with
 |none=>exact h.elim
 |some a=>exact ⟨a,rfl,h⟩
theorem bb {α:Type}{r:Res α}{k k':α->Mem->Prop}(h:aq r k)(m:∀a M,k a M->k' a M):aq r k':=by
 cases r with
 |ok a M=>exact m a M h
 |err=>exact h
 |bad=>exact h
section
variable (fa:Fa)(K:PySem.W.Frag)
def bJ (μ:Mu)(H:Hp)(Q:VK)(d:D)(M':Mem):Prop:=∀v H' μ',Ext μ H μ' H'->RelM fa K μ' H' M'->Rep fa K μ' H' d v->Q v H'
def tE (g:Env->Mem->Res D):TE:=fun σ H Q=>∃μ Z M,bK fa K μ H σ Z/\RelM fa K μ H M/\aq (g Z M) (bJ fa K μ H Q)
def tT (g:Env->Mem->Res Bool):TT:=fun σ H Q=>∃μ Z M,bK fa K μ H σ Z/\RelM fa K μ H M/\aq (g Z M) fun b M'=>∀H' μ',Ext μ H μ' H'->RelM fa K μ' H' M'->Q b H'
def tA (g:Env->Mem->Res (List D)):TA:=fun σ H Q=>∃μ Z M,bK fa K μ H σ Z/\RelM fa K μ H M/\aq (g Z M) fun ds M'=>∀vs H' μ',Ext μ H μ' H'->RelM fa K μ' H' M'->a9 fa K μ' H' ds vs->Q vs H'
end
def og (New:Addr->Prop)(C:Addr)(dx:Option Addr)(a:Addr)(h:Heap)(H:Hp):Prop:=New a/\H a=none/\∃o vs,h.get? a=some o/\o.cls=.ref C/\o.dict=dx/\o.data=.fields vs/\
 (vs[1]?=some .none\/∃T oT ts,vs[1]?=some (.ref T)/\T≠a/\New T/\H T=none/\h.get? T=some oT/\oT.data=.fields ts/\ts[3]?=some .none)
def oa (X:Cx)(b:Addr):Prop:=X.s₀.heap.get? b=none/\∀p∈X.pn,p.1≠b
def XW (fa:Fa)(X:Cx)(μ:Mu)(H:Hp)(x:D)(Z:Env)(M:Mem):Prop:=∀pins σ' H' μ' s' a C dx c p,Inv X pins σ' H' s'->Ext μ H μ' H'->bK fa X.K μ' H' σ' Z->RelM fa X.K μ' H' M->x=.exc c p->fa (dE c)=some C->yu H' c dx p->og (oa X) C dx a s'.heap H'->X.xe (.ref a) s'
def pe (fa:Fa)(X:Cx)(μ:Mu)(H:Hp)(D:Ends):Fl->Mem->Prop
 |.next ρ',M'=>∀σ' H' μ',Ext μ H μ' H'->bK fa X.K μ' H' σ' ρ'->RelM fa X.K μ' H' M'->D.nx σ' H'
 |.ret d,M'=>bJ fa X.K μ H D.rt d M'
 |.exc x ρ',M'=>XW fa X μ H x ρ' M'
def tF (fa:Fa)(X:Cx)(g:Env->Mem->Res Fl):TS:=fun D σ H=>∃μ Z M,bK fa X.K μ H σ Z/\RelM fa X.K μ H M/\aq (g Z M) (pe fa X μ H D)
theorem XW.ext {fa:Fa}{X:Cx}{μ μ':Mu}{H H':Hp}{x:D}{Z:Env}{M:Mem}(h:XW fa X μ H x Z M)(y:Ext μ H μ' H'):XW fa X μ' H' x Z M:=fun pins σ1 H1 μ1 s1 a C dx c p I e=>h pins σ1 H1 μ1 s1 a C dx c p I (y.trans e)
section
variable {fa:Fa}{K:PySem.W.Frag}{μ μ':Mu}{H H':Hp}{Q:VK}
theorem bJ.ext {d:D}{M:Mem}(h:bJ fa K μ H Q d M)(x:Ext μ H μ' H'):bJ fa K μ' H' Q d M:=fun v H'' μ'' y m r=>h v H'' μ'' (x.trans y) m r
theorem l8 {r:Res D}(h:aq r (bJ fa K μ H Q))(x:Ext μ H μ' H'):aq r (bJ fa K μ' H' Q):=bb h fun _ _ w=>w.ext x
end
theorem cq {X:Cx}{e:Expr}{t t':TE}(h:PE X e t)(i:∀σ H Q,t' σ H Q->t σ H Q):PE X e t':=fun pins s σ H Q I q=>h pins s σ H Q I (i σ H Q q)
theorem nI {X:Cx}{e:Expr}{t t':TT}(h:PT X e t)(i:∀σ H Q,t' σ H Q->t σ H Q):PT X e t':=fun pins s σ H Q I q=>h pins s σ H Q I (i σ H Q q)
theorem zf {X:Cx}{e:Expr}{t t':TT}(h:PW X e t)(i:∀σ H Q,t' σ H Q->t σ H Q):PW X e t':=fun w pins s σ H Q I q=>h w pins s σ H Q I (i σ H Q q)
theorem zp {X:Cx}{e:List Expr}{t t':TA}(h:PA X e t)(i:∀σ H Q,t' σ H Q->t σ H Q):PA X e t':=fun pos pins s σ H Q I q=>h pos pins s σ H Q I (i σ H Q q)
theorem jR {X:Cx}{e:Stmt}{t t':TS}(h:PS X e t)(i:∀D σ H,t' D σ H->t D σ H):PS X e t':=fun pins s σ H D I q=>h pins s σ H D I (i D σ H q)
theorem wd {X:Cx}{e:List Stmt}{t t':TS}(h:n8 X e t)(i:∀D σ H,t' D σ H->t D σ H):n8 X e t':=fun pins s σ H D I q=>h pins s σ H D I (i D σ H q)
section
variable {fa:Fa}{K:PySem.W.Frag}{μ:Mu}{H:Hp}{σ:L2.St}{Z:Env}{M:Mem}
theorem t1 {g:Env->Mem->Res D}{β:Type}{f:D->Mem->Res β}{P:β->Mem->Prop}{R:V->Hp->Prop}(hE:bK fa K μ H σ Z)(hM:RelM fa K μ H M)(h:aq ((g Z M).bind f) P)
 (k:∀x M1 v H1 μ1,Ext μ H μ1 H1->bK fa K μ1 H1 σ Z->RelM fa K μ1 H1 M1->Rep fa K μ1 H1 x v->aq (f x M1) P->R v H1):tE fa K g σ H R:=by
 obtain ⟨x,M1,e,q⟩:=bp h
 refine ⟨μ,Z,M,hE,hM,?_⟩
 rw [e]
 exact fun v H1 μ1 x1 m1 r1=>k x M1 v H1 μ1 x1 (hE.ext x1) m1 r1 q
theorem yN {g:Env->Mem->Res Bool}{β:Type}{f:Bool->Mem->Res β}{P:β->Mem->Prop}{R:Bool->Hp->Prop}(hE:bK fa K μ H σ Z)(hM:RelM fa K μ H M)(h:aq ((g Z M).bind f) P)
 (k:∀b M1 H1 μ1,Ext μ H μ1 H1->bK fa K μ1 H1 σ Z->RelM fa K μ1 H1 M1->aq (f b M1) P->R b H1):tT fa K g σ H R:=by
 obtain ⟨b,M1,e,q⟩:=bp h
 refine ⟨μ,Z,M,hE,hM,?_⟩
 rw [e]
 exact fun H1 μ1 x1 m1=>k b M1 H1 μ1 x1 (hE.ext x1) m1 q
theorem uw {g:Env->Mem->Res (List D)}{β:Type}{f:List D->Mem->Res β}{P:β->Mem->Prop}{R:List V->Hp->Prop}(hE:bK fa K μ H σ Z)(hM:RelM fa K μ H M)(h:aq ((g Z M).bind f) P)
 (k:∀ds M1 vs H1 μ1,Ext μ H μ1 H1->bK fa K μ1 H1 σ Z->RelM fa K μ1 H1 M1->a9 fa K μ1 H1 ds vs->aq (f ds M1) P->R vs H1):tA fa K g σ H R:=by
 obtain ⟨ds,M1,e,q⟩:=bp h
 refine ⟨μ,Z,M,hE,hM,?_⟩
 rw [e]
 exact fun v H1 μ1 x1 m1 r1=>k ds M1 v H1 μ1 x1 (hE.ext x1) m1 r1 q
end
end LD
namespace LD
open PySem PySem.Spec PyProof.Rows L2
mutual
def toPy:D->PyData
 |.non=>.none
 |.bl b=>.bool b
 |.int i=>.int i
 |.str x=>.str x
 |.tup ds=>.tuple (bV ds)
 |.lst ds=>.list (bV ds)
 |.frz _=>.none
 |.cell _=>.none
 |.fn _=>.none
 |.exc _ _=>.none
def bV:List D->List PyData
 |[]=>[]
 |d::r=>toPy d::bV r
end
theorem om:∀(n:Nat) (d:D),aK n d=true->(toPy d).canLay0=true/\(toPy d).depth<=n:=by
 have all:∀(n:Nat),(∀d,aK n d=true->(toPy d).canLay0=true/\(toPy d).depth<=n)->∀ds:List D,ds.all (aK n)=true->PyData.canLayAll0 (bV ds)=true/\PyData.depthAll (bV ds)<=n:=by
  intro n h ds
  induction ds with
  |nil=>intro _;simp [bV,PyData.canLayAll0,PyData.depthAll]
  | cons d r ih =>
    intro q
    simp only [List.all_cons,Bool.and_eq_true] at q
    obtain ⟨h1,h2⟩:=h d q.1
    obtain ⟨h3,h4⟩:=ih q.2
    simp only [bV,PyData.canLayAll0,PyData.depthAll,h1,h3,Bool.and_self,true_and]
    omega
 intro n
 induction n with
 | zero =>
   intro d h
   cases d with
   |str x=>exact ⟨by simpa [toPy,PyData.canLay0,PyData.strOk,aK] using h,by simp [toPy,PyData.depth]⟩
   |tup _=>simp [aK] at h
   |lst _=>simp [aK] at h
   |frz _=>simp [aK] at h
   |cell _=>simp [aK] at h
   |fn _=>simp [aK] at h
   |exc y p=>simp [aK] at h
   |_=>exact ⟨by simp [toPy,PyData.canLay0],by simp [toPy,PyData.depth]⟩
 | succ n ih =>
   intro d h
   cases d with
   |str x=>exact ⟨by simpa [toPy,PyData.canLay0,PyData.strOk,aK] using h,by simp [toPy,PyData.depth]⟩
   | tup ds =>
     obtain ⟨h1,h2⟩:=all n ih ds (by simpa [aK] using h)
     simp only [toPy,PyData.canLay0,PyData.depth,h1,true_and]
     omega
   | lst ds =>
     obtain ⟨h1,h2⟩:=all n ih ds (by simpa [aK] using h)
     simp only [toPy,PyData.canLay0,PyData.depth,h1,true_and]
     omega
   |frz _=>simp [aK] at h
   |cell _=>simp [aK] at h
   |fn _=>simp [aK] at h
   |exc y p=>simp [aK] at h
   |_=>exact ⟨by simp [toPy,PyData.canLay0],by simp [toPy,PyData.depth]⟩
theorem lz {d:D}(h:aK 64 d=true):SeqAt.shaped (toPy d)=true:=by
 obtain ⟨h1,h2⟩:=om 64 d h
 simp [SeqAt.shaped,h1,h2]
mutual
theorem oG:∀(n m:Nat) (a b:D),aK n a=true->aK m b=true->PyData.eqv (toPy a) (toPy b)=bH a b
 | n, m, .tup a, .tup b, ha, hb => by
   cases n with
   |zero=>simp [aK] at ha
   | succ n =>
     cases m with
     |zero=>simp [aK] at hb
     | succ m =>
       simp only [toPy,PyData.eqv,bH]
       exact pU n m a b (by simpa [aK] using ha) (by simpa [aK] using hb)
 | n, m, .lst a, .lst b, ha, hb => by
   cases n with
   |zero=>simp [aK] at ha
   | succ n =>
     cases m with
     |zero=>simp [aK] at hb
     | succ m =>
       simp only [toPy,PyData.eqv,bH]
       exact pU n m a b (by simpa [aK] using ha) (by simpa [aK] using hb)
 |n,m,.frz _,_,ha,hb=>by cases n<;>simp [aK] at ha
 |n,m,.cell _,_,ha,hb=>by cases n<;>simp [aK] at ha
 |n,m,.fn _,_,ha,hb=>by cases n<;>simp [aK] at ha
 |n,m,.exc _ _,_,ha,hb=>by cases n<;>simp [aK] at ha
 |n,m,_,.frz _,ha,hb=>by cases m<;>simp [aK] at hb
 |n,m,_,.cell _,ha,hb=>by cases m<;>simp [aK] at hb
 |n,m,_,.fn _,ha,hb=>by cases m<;>simp [aK] at hb
 |n,m,_,.exc _ _,ha,hb=>by cases m<;>simp [aK] at hb
 |_,_,.non,.non,_,_=>by simp [toPy,PyData.eqv,bH]
 |_,_,.non,.bl _,_,_=>by simp [toPy,PyData.eqv,bH]
 |_,_,.non,.int _,_,_=>by simp [toPy,PyData.eqv,bH]
 |_,_,.non,.str _,_,_=>by simp [toPy,PyData.eqv,bH]
 |_,_,.non,.tup _,_,_=>by simp [toPy,PyData.eqv,bH]
 |_,_,.non,.lst _,_,_=>by simp [toPy,PyData.eqv,bH]
 |_,_,.bl _,.non,_,_=>by simp [toPy,PyData.eqv,bH]
 |_,_,.bl _,.bl _,_,_=>by simp [toPy,PyData.eqv,bH]
 |_,_,.bl _,.int _,_,_=>by simp [toPy,PyData.eqv,bH]
 |_,_,.bl _,.str _,_,_=>by simp [toPy,PyData.eqv,bH]
 |_,_,.bl _,.tup _,_,_=>by simp [toPy,PyData.eqv,bH]
 |_,_,.bl _,.lst _,_,_=>by simp [toPy,PyData.eqv,bH]
 |_,_,.int _,.non,_,_=>by simp [toPy,PyData.eqv,bH]
 |_,_,.int _,.bl _,_,_=>by simp [toPy,PyData.eqv,bH]
 |_,_,.int _,.int _,_,_=>by simp [toPy,PyData.eqv,bH]
 |_,_,.int _,.str _,_,_=>by simp [toPy,PyData.eqv,bH]
 |_,_,.int _,.tup _,_,_=>by simp [toPy,PyData.eqv,bH]
 |_,_,.int _,.lst _,_,_=>by simp [toPy,PyData.eqv,bH]
 |_,_,.str _,.non,_,_=>by simp [toPy,PyData.eqv,bH]
 |_,_,.str _,.bl _,_,_=>by simp [toPy,PyData.eqv,bH]
 |_,_,.str _,.int _,_,_=>by simp [toPy,PyData.eqv,bH]
 |_,_,.str _,.str _,_,_=>by simp [toPy,PyData.eqv,bH]
 |_,_,.str _,.tup _,_,_=>by simp [toPy,PyData.eqv,bH]
 |_,_,.str _,.lst _,_,_=>by simp [toPy,PyData.eqv,bH]
 |_,_,.tup _,.non,_,_=>by simp [toPy,PyData.eqv,bH]
 |_,_,.tup _,.bl _,_,_=>by simp [toPy,PyData.eqv,bH]
 |_,_,.tup _,.int _,_,_=>by simp [toPy,PyData.eqv,bH]
 |_,_,.tup _,.str _,_,_=>by simp [toPy,PyData.eqv,bH]
 |_,_,.tup _,.lst _,_,_=>by simp [toPy,PyData.eqv,bH]
 |_,_,.lst _,.non,_,_=>by simp [toPy,PyData.eqv,bH]
 |_,_,.lst _,.bl _,_,_=>by simp [toPy,PyData.eqv,bH]
 |_,_,.lst _,.int _,_,_=>by simp [toPy,PyData.eqv,bH]
 |_,_,.lst _,.str _,_,_=>by simp [toPy,PyData.eqv,bH]
 |_,_,.lst _,.tup _,_,_=>by simp [toPy,PyData.eqv,bH]
theorem pU:∀(n m:Nat) (a b:List D),a.all (aK n)=true->b.all (aK m)=true->PyData.eqvAll (bV a) (bV b)=n5 a b
 |n,m,[],[],_,_=>by simp [bV,PyData.eqvAll,n5]
 |n,m,[],_::_,_,_=>by simp [bV,PyData.eqvAll,n5]
 |n,m,_::_,[],_,_=>by simp [bV,PyData.eqvAll,n5]
 | n, m, x :: a, y :: b, ha, hb => by
   simp only [List.all_cons,Bool.and_eq_true] at ha hb
   simp only [bV,PyData.eqvAll,n5]
   rw [oG n m x y ha.1 hb.1,pU n m a b ha.2 hb.2]
end
section
variable {fa:Fa}{X:Cx}{μ:Mu}{H:Hp}{σ:L2.St}{pins:List (Addr×Obj)}{s:Shared}{M:Mem}
theorem kO {d:D}{v:V}{ds:List D}(hM:RelM fa X.K μ H M)(h:Rep fa X.K μ H d v)(e:kW M d=some ds):∃a vs,v=.ref a/\H a=some (.lst vs)/\a9 fa X.K μ H ds vs:=by
 cases d with
 | lst xs =>
   cases e
   obtain ⟨a,vs,e,s,r⟩:=h
   exact ⟨a,vs,e,s.1,r⟩
 | cell k =>
   obtain ⟨a,rfl,hk⟩:=h
   obtain ⟨b,vs,h1,h2,h3⟩:=hM.at' k ds e
   rw [hk] at h1;cases h1
   exact ⟨a,vs,rfl,h2,h3⟩
 |_=>cases e
theorem cf {d:D}{v:V}{ds:List D}(hM:RelM fa X.K μ H M)(h:Rep fa X.K μ H d v)(e:gD M d=some ds):∃a vs,v=.ref a/\dq X.K H a vs/\a9 fa X.K μ H ds vs:=by
 cases d with
 | lst xs =>
   obtain ⟨a,vs,h1,h2,h3⟩:=kO (ds:=ds) hM h e
   exact ⟨a,vs,h1,.of h2,h3⟩
 | frz xs =>
   cases e
   obtain ⟨a,vs,e,s,r⟩:=h
   exact ⟨a,vs,e,s.elim (fun z=>.inl (.inr z)) .inr,r⟩
 | cell k =>
   obtain ⟨a,vs,h1,h2,h3⟩:=kO (ds:=ds) hM h e
   exact ⟨a,vs,h1,.of h2,h3⟩
 |_=>cases e
theorem kN {d:D}{v:V}{ds:List D}(hM:RelM fa X.K μ H M)(h:Rep fa X.K μ H d v)(e:cL M d=some ds):∃a vs,v=.ref a/\(dq X.K H a vs\/eD X.K H a vs)/\a9 fa X.K μ H ds vs:=by
 cases d with
 | tup xs =>
   cases e
   obtain ⟨a,vs,rfl,h1,h2⟩:=h
   exact ⟨a,vs,rfl,.inr h1,h2⟩
 | lst xs =>
   obtain ⟨a,vs,h1,h2,h3⟩:=cf (ds:=ds) hM h e
   exact ⟨a,vs,h1,.inl h2,h3⟩
 | frz xs =>
   obtain ⟨a,vs,h1,h2,h3⟩:=cf (ds:=ds) hM h e
   exact ⟨a,vs,h1,.inl h2,h3⟩
 | cell k =>
   obtain ⟨a,vs,h1,h2,h3⟩:=cf (ds:=ds) hM h e
   exact ⟨a,vs,h1,.inl h2,h3⟩
 |_=>cases e
mutual
theorem e9 (I:Inv X pins σ H s):∀(d:D) (n:Nat) (v:V) (u:Value),aK n d=true->Rep fa X.K μ H d v->RelV v u->∃as,Reads s.heap u (toPy d) as
 | .non, n, v, u, _, h, r => by
   obtain rfl:v=.non:=h
   obtain rfl:u=Value.none:=r
   exact ⟨_,.none⟩
 | .bl b, n, v, u, _, h, r => by
   obtain rfl:v=.bl b:=h
   obtain rfl:u=Value.bool b:=r
   exact ⟨_,.bool b⟩
 | .int i, n, v, u, _, h, r => by
   obtain rfl:v=.int i:=h
   obtain ⟨t,rfl⟩:=r
   exact ⟨_,.int i t⟩
 | .str x, n, v, u, _, h, r => by
   obtain rfl:v=.str x:=h
   obtain ⟨t,rfl⟩:=r
   exact ⟨_,.str x t⟩
 | .tup ds, n, v, u, hp, h, r => by
   cases n with
   |zero=>simp [aK] at hp
   | succ n =>
     obtain ⟨a,vs,rfl,h1,h2⟩:=h
     obtain rfl:u=Value.ref a:=r
     obtain ⟨its,rv,⟨o,e1,e2,k,e3⟩,_⟩:=I.tuple h1
     obtain ⟨as,q⟩:=gX I ds n vs its (by simpa [aK] using hp) h2 rv
     exact ⟨_,.tuple e1 e2 e3 (by simpa using q)⟩
 | .lst ds, n, v, u, hp, h, r => by
   cases n with
   |zero=>simp [aK] at hp
   | succ n =>
     obtain ⟨a,vs,rfl,h1,h2⟩:=h
     obtain rfl:u=Value.ref a:=r
     obtain ⟨its,rv,⟨o,k,e1,e2,e4,e3⟩,_⟩:=I.list (dq.of h1.1)
     obtain ⟨as,q⟩:=gX I ds n vs its (by simpa [aK] using hp) h2 rv
     exact ⟨_,.list e1 e2 e3 (by simpa using q)⟩
 |.frz k,n,v,u,hp,_,_=>by cases n<;>simp [aK] at hp
 |.cell k,n,v,u,hp,_,_=>by cases n<;>simp [aK] at hp
 |.fn f,n,v,u,hp,_,_=>by cases n<;>simp [aK] at hp
 |.exc _ _,n,v,u,hp,_,_=>by cases n<;>simp [aK] at hp
theorem gX (I:Inv X pins σ H s):∀(ds:List D) (n:Nat) (vs:List V) (us:List Value),ds.all (aK n)=true->a9 fa X.K μ H ds vs->Vals vs us->∃as,ReadsAll s.heap us (bV ds) as
 | [], n, vs, us, _, h, r => by
   obtain rfl:vs=[]:=h
   cases r
   exact ⟨_,.nil⟩
 | d :: ds, n, vs, us, hp, h, r => by
   obtain ⟨v,vr,rfl,h1,h2⟩:=h
   simp only [List.all_cons,Bool.and_eq_true] at hp
   cases r with
   | cons r1 r2 =>
     obtain ⟨as,q1⟩:=e9 I d n v _ hp.1 h1 r1
     obtain ⟨bs,q2⟩:=gX I ds n vr _ hp.2 h2 r2
     exact ⟨_,.cons q1 q2⟩
end
theorem Dl {d:D}{n:Nat}(h:aK n (view M d)=true):(view M d=d/\aK n d=true)\/∃ds,gD M d=some ds/\view M d=.lst ds:=by
 cases d with
 | cell k =>
   cases e:M[k]? with
   | none =>
     have ev:view M (.cell k)=.cell k:=by simp [view,e]
     rw [ev] at h
     cases n<;>simp [aK] at h
   |some ds=>exact .inr ⟨ds,e,by simp [view,e]⟩
 |frz ds=>exact .inr ⟨ds,rfl,rfl⟩
 |_=>exact .inl ⟨rfl,h⟩
theorem my (I:Inv X pins σ H s)(hM:RelM fa X.K μ H M){d:D}{v:V}{u:Value}(hp:aK 64 (view M d)=true)(h:Rep fa X.K μ H d v)(r:RelV v u):∃as,Reads s.heap u (toPy (view M d)) as:=by
 rcases Dl hp with ⟨e,hp'⟩|⟨ds,e,ev⟩
 ·rw [e];exact e9 I _ 64 v u hp' h r
 ·rw [ev] at hp ⊢
  obtain ⟨a,vs,rfl,h1,h2⟩:=cf (ds:=ds) hM h e
  obtain rfl:u=Value.ref a:=r
  obtain ⟨its,rv,⟨o,k,e1,e2,e4,e3⟩,_⟩:=I.list h1
  obtain ⟨as,q⟩:=gX I ds 63 vs its (by simpa [aK] using hp) h2 rv
  exact ⟨_,.list e1 e2 e3 (by simpa using q)⟩
theorem jE (I:Inv X pins σ H s)(hM:RelM fa X.K μ H M):∀(n m:Nat) (d:D) (v:V) (u:Value),aK m (cP n M d)=true->Rep fa X.K μ H d v->RelV v u->∃as,Reads s.heap u (toPy (cP n M d)) as
 |0,m,d,v,u,hp,h,r=>e9 I d m v u hp h r
 | n + 1, m, d, v, u, hp, h, r => by
   have ih:=jE I hM n
   have all:∀(m:Nat) (ds:List D) (vs:List V) (us:List Value),(ds.map (cP n M)).all (aK m)=true->a9 fa X.K μ H ds vs->Vals vs us->∃as,ReadsAll s.heap us (bV (ds.map (cP n M))) as:=by
    intro m ds
    induction ds with
    | nil =>
      intro vs us _ h r
      obtain rfl:vs=[]:=h
      cases r
      exact ⟨_,.nil⟩
    | cons d ds ihl =>
      intro vs us hp h r
      obtain ⟨v,vr,rfl,h1,h2⟩:=h
      simp only [List.map_cons,List.all_cons,Bool.and_eq_true] at hp
      cases r with
      | cons r1 r2 =>
        obtain ⟨as,q1⟩:=ih m d v _ hp.1 h1 r1
        obtain ⟨bs,q2⟩:=ihl vr _ hp.2 h2 r2
        exact ⟨_,.cons q1 q2⟩
   have lst:∀(ds:List D) (a:Addr) (vs:List V),aK m (.lst (ds.map (cP n M)))=true->dq X.K H a vs->a9 fa X.K μ H ds vs->u=.ref a->∃as,Reads s.heap u (toPy (.lst (ds.map (cP n M)))) as:=by
    intro ds a vs hp h1 h2 e
    subst e
    cases m with
    |zero=>simp [aK] at hp
    | succ m =>
      obtain ⟨its,rv,⟨o,k,e1,e2,e4,e3⟩,_⟩:=I.list h1
      obtain ⟨as,q⟩:=all m ds vs its (by simpa [aK] using hp) h2 rv
      exact ⟨_,.list e1 e2 e3 (by simpa using q)⟩
   cases d with
   | cell k =>
     cases e:M[k]? with
     | none =>
       have ev:cP (n+1) M (.cell k)=.cell k:=by simp [cP,e]
       rw [ev] at hp
       cases m<;>simp [aK] at hp
     | some ds =>
       have ev:cP (n+1) M (.cell k)=.lst (ds.map (cP n M)):=by simp [cP,e]
       rw [ev] at hp ⊢
       obtain ⟨a,vs,rfl,h1,h2⟩:=cf (ds:=ds) hM h e
       exact lst ds a vs hp h1 h2 r
   | frz ds =>
     obtain ⟨a,vs,rfl,h1,h2⟩:=cf (ds:=ds) hM h rfl
     exact lst ds a vs hp h1 h2 r
   | lst ds =>
     obtain ⟨a,vs,rfl,h1,h2⟩:=cf (ds:=ds) hM h rfl
     exact lst ds a vs hp h1 h2 r
   | tup ds =>
     have hp:aK m (.tup (ds.map (cP n M)))=true:=hp
     cases m with
     |zero=>simp [aK] at hp
     | succ m =>
       obtain ⟨a,vs,rfl,h1,h2⟩:=h
       obtain rfl:u=Value.ref a:=r
       obtain ⟨its,rv,⟨o,e1,e2,k,e3⟩,_⟩:=I.tuple h1
       obtain ⟨as,q⟩:=all m ds vs its (by simpa [aK] using hp) h2 rv
       exact ⟨_,.tuple e1 e2 e3 (by simpa using q)⟩
   |non=>exact e9 I .non m v u hp h r
   |bl b=>exact e9 I (.bl b) m v u hp h r
   |int i=>exact e9 I (.int i) m v u hp h r
   |str x=>exact e9 I (.str x) m v u hp h r
   |fn f=>exact e9 I (.fn f) m v u hp h r
   |exc y p=>exact e9 I (.exc y p) m v u hp h r
abbrev Rm (X:Cx):Prop:=X.A.units+100<cLine
def i7 (fa:Fa)(K:PySem.W.Frag)(o:iM):R2:=fun x y H Q=>∃μ M dx dy b,RelM fa K μ H M/\Rep fa K μ H dx x/\Rep fa K μ H dy y/\bU o dx dy M=some b/\Q (.bl b) H
theorem vo {a b:D}{k:Bool}(hs:(jm a&&jm b)=false)(h:qQ a b=some k):aK 64 a=true/\aK 64 b=true/\k=bH a b:=by
 unfold qQ at h
 rw [hs,Bool.false_or] at h
 split at h
 ·next q=>
  simp only [Bool.and_eq_true] at q
  exact ⟨q.1,q.2,(Option.some.inj h).symm⟩
 ·cases h
theorem vm (d:D):jm (view M d)=jm d:=by
 cases d with
 |cell k=>cases e:M[k]?<;>simp [view,e,jm]
 |_=>rfl
theorem sS (n:Nat)(d:D):jm (cP n M d)=jm d:=by
 cases n with
 |zero=>rfl
 | succ n =>
   cases d with
   |cell k=>cases e:M[k]?<;>simp [cP,e,jm]
   |_=>rfl
theorem sW (I:Inv X pins σ H s)(hM:RelM fa X.K μ H M){a b:D}{x y:V}{v u:Value}{k:Bool}(hs:(jm a&&jm b)=false)(h:mi M a b=some k)(h1:Rep fa X.K μ H a x)(h2:Rep fa X.K μ H b y)(rx:RelV x v)(ry:RelV y u) :
 ∃c e as bs,aK 64 c=true/\aK 64 e=true/\k=bH c e/\Reads s.heap v (toPy c) as/\Reads s.heap u (toPy e) bs:=by
 unfold mi at h
 cases q:qQ (view M a) (view M b) with
 | some r =>
   rw [q] at h
   cases h
   obtain ⟨p1,p2,e⟩:=vo (by rw [vm,vm];exact hs) q
   obtain ⟨as,r1⟩:=my I hM p1 h1 rx
   obtain ⟨bs,r2⟩:=my I hM p2 h2 ry
   exact ⟨_,_,as,bs,p1,p2,e,r1,r2⟩
 | none =>
   rw [q] at h
   obtain ⟨p1,p2,e⟩:=vo (by rw [sS,sS];exact hs) h
   obtain ⟨as,r1⟩:=jE I hM 64 64 a x v p1 h1 rx
   obtain ⟨bs,r2⟩:=jE I hM 64 64 b y u p2 h2 ry
   exact ⟨_,_,as,bs,p1,p2,e,r1,r2⟩
theorem uy {a b:D}(h:(jm a&&jm b)=true):∃x y,a=.str x/\b=.str y:=by
 cases a with
 | str x =>
   cases b with
   |str y=>exact ⟨x,y,rfl,rfl⟩
   |_=>cases h
 |_=>cases h
theorem rY {x y:Str}:mi M (.str x) (.str y)=some (x==y):=by
 have e:bH (.str x) (.str y)=(x==y):=by simp [bH]
 rw [<- e];rfl
theorem Mm (hu:Rm X):cu X (compareOp .Eq) (i7 fa X.K .eq):=by
 intro pins s σ H x y v u Q I rx ry h
 obtain ⟨μ,M,dx,dy,b,hM,h1,h2,e,q⟩:=h
 cases hs:jm dx&&jm dy with
 | true =>
   obtain ⟨i,j,rfl,rfl⟩:=uy hs
   obtain rfl:x=.str i:=h1
   obtain rfl:y=.str j:=h2
   obtain rfl:(i==j)=b:=Option.some.inj (rY.symm.trans e)
   exact Ju pins s σ H _ _ v u Q I rx ry ⟨rfl,by rw [oJ];exact q⟩
 | false =>
   obtain ⟨_,_,as,bs,p1,p2,rfl,r1,r2⟩:=sW I hM hs (show mi M dx dy=some b from e) h1 h2 rx ry
   refine SeqAt.compareEq_shaped r1 r2 (lz p1) (lz p2) (by unfold Rm at hu;omega) ?_
   rw [oG 64 64 _ _ p1 p2]
   exact ⟨.bl _,H,I,rfl,q⟩
theorem Mg (hu:Rm X):cu X (compareOp .NotEq) (i7 fa X.K .ne):=by
 intro pins s σ H x y v u Q I rx ry h
 obtain ⟨μ,M,dx,dy,b,hM,h1,h2,e,q⟩:=h
 have e:(mi M dx dy).map (!·)=some b:=e
 cases e':mi M dx dy with
 |none=>rw [e'] at e;cases e
 | some k =>
   rw [e'] at e
   obtain rfl:(!k)=b:=Option.some.inj e
   cases hs:jm dx&&jm dy with
   | true =>
     obtain ⟨i,j,rfl,rfl⟩:=uy hs
     obtain rfl:x=.str i:=h1
     obtain rfl:y=.str j:=h2
     obtain rfl:(i==j)=k:=Option.some.inj (rY.symm.trans e')
     exact Jp pins s σ H _ _ v u Q I rx ry ⟨rfl,by rw [oJ];exact q⟩
   | false =>
     obtain ⟨_,_,as,bs,p1,p2,rfl,r1,r2⟩:=sW I hM hs e' h1 h2 rx ry
     refine SeqAt.compareNe_shaped r1 r2 (lz p1) (lz p2) (by unfold Rm at hu;omega) ?_
     rw [oG 64 64 _ _ p1 p2]
     exact ⟨.bl _,H,I,rfl,q⟩
end
end LD
namespace LD
open PySem PySem.Spec PyProof.Rows L2
section
variable {fa:Fa}{X:Cx}{μ:Mu}{H:Hp}{σ:L2.St}{pins:List (Addr×Obj)}{s:Shared}{M:Mem}
theorem jS {f:Value->Value->Sem Value}{r r':R2}(h:cu X f r)(i:∀x y H Q,r' x y H Q->r x y H Q):cu X f r':=fun pins s σ H x y v u Q I rx ry q=>h pins s σ H x y v u Q I rx ry (i x y H Q q)
theorem mU {f:Value}{r r':List V->Hp->VK->Prop}(h:dA X f r)(i:∀xs H Q,r' xs H Q->r xs H Q):dA X f r':=fun pins s σ H xs us Q I rx q=>h pins s σ H xs us Q I rx (i xs H Q q)
theorem oM {o:iM}{g:Int->Int->Bool}(ho:o=.lt\/o=.le\/o=.gt\/o=.ge)(hg:∀i j,bU o (.int i) (.int j) []=some (g i j)){x y:V}{Q:VK}(h:i7 fa X.K o x y H Q) :
 ∃i j,x=.int i/\y=.int j/\Q (.bl (g i j)) H:=by
 obtain ⟨μ,M,dx,dy,b,hM,h1,h2,e,q⟩:=h
 have key:∀i j,dx=.int i->dy=.int j->∃i j,x=.int i/\y=.int j/\Q (.bl (g i j)) H:=fun i j e1 e2=>by
  subst e1 e2
  have e3:bU o (.int i) (.int j) M=some (g i j):=by
   have:=hg i j
   rcases ho with rfl|rfl|rfl|rfl<;>exact this
  rw [e] at e3
  have e4:=Option.some.inj e3
  subst e4
  exact ⟨i,j,h1,h2,q⟩
 rcases ho with rfl|rfl|rfl|rfl<;>
 ·cases dx with
  |int i=>cases dy<;>first|exact key _ _ rfl rfl|cases e
  |_=>cases e
theorem Mh:cu X (compareOp .Lt) (i7 fa X.K .lt):=jS Jq fun x y H Q h=>oM (.inl rfl) (fun _ _=>rfl) h
theorem Mi:cu X (compareOp .LtE) (i7 fa X.K .le):=jS Jr fun x y H Q h=>oM (.inr (.inl rfl)) (fun _ _=>rfl) h
theorem Mk:cu X (compareOp .Gt) (i7 fa X.K .gt):=jS Js fun x y H Q h=>oM (.inr (.inr (.inl rfl))) (fun _ _=>rfl) h
theorem Ml:cu X (compareOp .GtE) (i7 fa X.K .ge):=jS Jt fun x y H Q h=>oM (.inr (.inr (.inr rfl))) (fun _ _=>rfl) h
theorem wa {d:D}{v:V}{K:PySem.W.Frag}(h:Rep fa K μ H d v):decide (v=.non)=lG d:=by
 cases d with
 |non=>obtain rfl:v=.non:=h;rfl
 |bl b=>obtain rfl:v=.bl b:=h;rfl
 |int b=>obtain rfl:v=.int b:=h;rfl
 |str b=>obtain rfl:v=.str b:=h;rfl
 |tup b=>obtain ⟨a,vs,rfl,_⟩:=h;rfl
 |lst b=>obtain ⟨a,vs,rfl,_⟩:=h;rfl
 |frz b=>obtain ⟨a,vs,rfl,_⟩:=h;rfl
 |cell b=>obtain ⟨a,rfl,_⟩:=h;rfl
 |fn b=>obtain ⟨a,rfl,_⟩:=h;rfl
 |exc y p=>obtain ⟨a,_,_,rfl,_⟩:=h;rfl
theorem J3:cu X (compareOp .Is) (i7 fa X.K .isN):=jS Gz fun x y H Q h=>by
 obtain ⟨μ,M,dx,dy,b,hM,h1,h2,e,q⟩:=h
 cases dy<;>first|cases (show (none:Option Bool)=some b from e)|skip
 refine ⟨h2,?_⟩
 rw [wa h1]
 have e:some (lG dx)=some b:=e
 rw [Option.some.inj e];exact q
theorem Iz:cu X (compareOp .IsNot) (i7 fa X.K .notN):=jS Ec fun x y H Q h=>by
 obtain ⟨μ,M,dx,dy,b,hM,h1,h2,e,q⟩:=h
 cases dy<;>first|cases (show (none:Option Bool)=some b from e)|skip
 refine ⟨h2,?_⟩
 rw [wa h1]
 have e:some (!lG dx)=some b:=e
 rw [Option.some.inj e];exact q
theorem vF (x:D)(hx:aK 64 x=true):∀(ds:List D),ds.all (aK 63)=true->((bV ds).any fun y=>PyData.eqv y (toPy x))=ds.any fun y=>bH y x
 |[],_=>rfl
 | d :: r, h => by
   simp only [List.all_cons,Bool.and_eq_true] at h
   simp only [bV,List.any_cons,oG 63 64 d x h.1 hx,vF x hx r h.2]
theorem uo (n:Nat):∀ds:List D,ds.all (aK n)=true->PyData.canLayAll0 (bV ds)=true/\PyData.depthAll (bV ds)<=n
 |[],_=>by simp [bV,PyData.canLayAll0,PyData.depthAll]
 | d :: r, h => by
   simp only [List.all_cons,Bool.and_eq_true] at h
   obtain ⟨h1,h2⟩:=om n d h.1
   obtain ⟨h3,h4⟩:=uo n r h.2
   simp only [bV,PyData.canLayAll0,PyData.depthAll,h1,h3,Bool.and_self,true_and]
   omega
theorem y4 (I:Inv X pins σ H s)(hM:RelM fa X.K μ H M){d:D}{v:V}{u:Value}{ds:List D}(hp:ds.all (aK 63)=true)(h:Rep fa X.K μ H d v)(r:RelV v u)(e:cL M d=some ds) :
 (∃as,Reads s.heap u (.list (bV ds)) as)\/∃as,Reads s.heap u (.tuple (bV ds)) as:=by
 obtain ⟨a,vs,rfl,h1,h2⟩:=kN (ds:=ds) hM h e
 obtain rfl:u=Value.ref a:=r
 rcases h1 with h1|h1
 ·obtain ⟨its,rv,⟨o,k,e1,e2,e4,e3⟩,_⟩:=I.list h1
  obtain ⟨as,q⟩:=gX I ds 63 vs its hp h2 rv
  exact .inl ⟨_,.list e1 e2 e3 (by simpa using q)⟩
 ·obtain ⟨its,rv,⟨o,e1,e2,k,e3⟩,_⟩:=I.tuple h1
  obtain ⟨as,q⟩:=gX I ds 63 vs its hp h2 rv
  exact .inr ⟨_,.tuple e1 e2 e3 (by simpa using q)⟩
theorem zQ (hu:Rm X){x y:V}{v u:Value}{dx dy:D}{ds:List D}{b:Bool}{Q:Value->Shared->Prop}(I:Inv X pins σ H s)(hM:RelM fa X.K μ H M)(h1:Rep fa X.K μ H dx x)(h2:Rep fa X.K μ H dy y)(rx:RelV x v)(ry:RelV y u)
 (e1:cL M dy=some ds) (e2:jc (view M dx) ds=some b) (neg:Bool) (q:Q (.bool (if neg then !b else b)) s):wpAny (model X.prog X.w) X.A (compareOp (if neg then .NotIn else .In) v u) Q X.xe s:=by
 unfold jc at e2
 split at e2
 ·next z=>
  simp only [Bool.and_eq_true] at z
  obtain ⟨p1,p2⟩:=z
  have e3:=Option.some.inj e2
  subst e3
  obtain ⟨as,r1⟩:=my I hM p1 h1 rx
  obtain ⟨c1,d1⟩:=om 64 _ p1
  obtain ⟨c2,d2⟩:=uo 63 ds p2
  have hu':X.A.units+1+min (PyData.depthAll (bV ds)) (toPy (view M dx)).depth<cLine:=by unfold Rm at hu;omega
  rw [<- vF _ p1 ds p2] at q
  rcases y4 I hM p2 h2 ry e1 with ⟨bs,r2⟩|⟨bs,r2⟩
  ·cases neg
   ·exact SeqAt.in_list_reads r2 r1 c2 c1 hu' q
   ·exact SeqAt.notIn_list_reads r2 r1 c2 c1 hu' q
  ·cases neg
   ·exact SeqAt.in_tuple_reads r2 r1 c2 c1 hu' q
   ·exact SeqAt.notIn_tuple_reads r2 r1 c2 c1 hu' q
 ·cases e2
theorem Mj (hu:Rm X):cu X (compareOp .In) (i7 fa X.K .isin):=by
 intro pins s σ H x y v u Q I rx ry h
 obtain ⟨μ,M,dx,dy,b,hM,h1,h2,e,q⟩:=h
 have gen:(cL M dy).bind (jc (view M dx))=some b->wpAny (model X.prog X.w) X.A (compareOp .In v u) (EP X pins σ Q) X.xe s:=fun e=>by
  cases e1:cL M dy with
  |none=>rw [e1] at e;cases e
  | some ds =>
    rw [e1] at e
    exact zQ hu I hM h1 h2 rx ry e1 e false ⟨.bl b,H,I,rfl,q⟩
 by_cases hs:(∃a,dx=.str a)/\∃c,dy=.str c
 ·obtain ⟨⟨a,rfl⟩,c,rfl⟩:=hs
  have e:some (ky a c)=some b:=e
  have e':=Option.some.inj e
  subst e'
  exact zy pins s σ H x y v u Q I rx ry ⟨a,c,h1,h2,q⟩
 ·refine gen ?_
  cases dx<;>first|exact e|(cases dy<;>first|exact e|exact absurd ⟨⟨_,rfl⟩,_,rfl⟩ hs)
theorem EZ (hu:Rm X):cu X (compareOp .NotIn) (i7 fa X.K .notin):=by
 intro pins s σ H x y v u Q I rx ry h
 obtain ⟨μ,M,dx,dy,b,hM,h1,h2,e,q⟩:=h
 have gen:((cL M dy).bind (jc (view M dx))).map (!·)=some b->wpAny (model X.prog X.w) X.A (compareOp .NotIn v u) (EP X pins σ Q) X.xe s:=fun e=>by
  cases e1:cL M dy with
  |none=>rw [e1] at e;cases e
  | some ds =>
    rw [e1] at e
    cases e2:jc (view M dx) ds with
    |none=>rw [Option.bind_some,e2] at e;cases e
    | some k =>
      rw [Option.bind_some,e2] at e
      have e':=Option.some.inj e
      subst e'
      exact zQ hu I hM h1 h2 rx ry e1 e2 true ⟨.bl _,H,I,rfl,q⟩
 by_cases hs:(∃a,dx=.str a)/\∃c,dy=.str c
 ·obtain ⟨⟨a,rfl⟩,c,rfl⟩:=hs
  have e:some (!ky a c)=some b:=e
  have e':=Option.some.inj e
  subst e'
  exact uZ pins s σ H x y v u Q I rx ry ⟨a,c,h1,h2,q⟩
 ·refine gen ?_
  cases dx<;>first|exact e|(cases dy<;>first|exact e|exact absurd ⟨⟨_,rfl⟩,_,rfl⟩ hs)
def c9:iM->CmpOp
 |.eq=>.Eq|.ne=>.NotEq|.lt=>.Lt|.le=>.LtE|.gt=>.Gt|.ge=>.GtE|.isN=>.Is|.notN=>.IsNot|.isin=>.In|.notin=>.NotIn
theorem oN (hu:Rm X):∀o:iM,cu X (compareOp (c9 o)) (i7 fa X.K o)
 |.eq=>Mm hu|.ne=>Mg hu|.lt=>Mh|.le=>Mi|.gt=>Mk|.ge=>Ml|.isN=>J3|.notN=>Iz|.isin=>Mj hu|.notin=>EZ hu
def nG (fa:Fa)(K:PySem.W.Frag)(m:Bool)(o:ph):R2:=fun x y H Q=>∃μ M dx dy,RelM fa K μ H M/\Rep fa K μ H dx x/\Rep fa K μ H dy y/\aq (fH m o dx dy M) (bJ fa K μ H Q)
theorem bF {Q:VK}{d:D}{v:V}(hM:RelM fa X.K μ H M)(h:bJ fa X.K μ H Q d M)(r:Rep fa X.K μ H d v):Q v H:=h v H μ .refl hM r
theorem iD {Q:VK}{m:Bool}{ds:List D}{vs:List V}(hM:RelM fa X.K μ H M)(r:a9 fa X.K μ H ds vs)(h:aq (bQ m ds M) (bJ fa X.K μ H Q)):ds.length<=sz/\∀p,H p=none->Q (.ref p) (upd H p (.lst vs)):=by
 unfold bQ at h
 split at h
 ·next hz=>
  refine ⟨hz,fun p hp=>?_⟩
  cases m with
  | true =>
    have h:bJ fa X.K μ H Q (.cell M.length) (M++[ds]):=h
    exact h (.ref p) _ (gY μ M.length p) (Ext.cell hM hp) (hM.cell hp r) ⟨p,rfl,by simp [gY]⟩
  | false =>
    have h:bJ fa X.K μ H Q (.lst ds) M:=h
    exact h (.ref p) _ μ (Ext.alloc hM hp) (hM.alloc hp) ⟨p,vs,rfl,⟨cn,hM.fresh hp⟩,r.ext (Ext.alloc hM hp)⟩
 ·exact h.elim
theorem jo {Q:VK}{ds:List D}{vs:List V}(hM:RelM fa X.K μ H M)(r:a9 fa X.K μ H ds vs)(h:bJ fa X.K μ H Q (.tup ds) M):∀p,H p=none->Q (.ref p) (upd H p (.tup vs)):=fun p hp=>
 h (.ref p) _ μ (Ext.alloc hM hp) (hM.alloc hp) ⟨p,vs,rfl,.of cn,r.ext (Ext.alloc hM hp)⟩
theorem d4:sz=sizeLine:=by rw [sizeLine_eq];rfl
theorem Br:cu X (binaryOp .Add) (fun x y H Q=>∃a b ys,x=.ref a/\y=.ref b/\eD X.K H a []/\eD X.K H b ys/\Q (.ref b) H):=by
 intro pins s σ H x y v u Q I rx ry h
 obtain ⟨a,b,ys,rfl,rfl,ha,hb,q⟩:=h
 cases rx
 cases ry
 obtain ⟨its,r1,p1,_⟩:=I.tuple ha
 obtain ⟨its2,r2,p2,_⟩:=I.tuple hb
 cases r1
 obtain ⟨⟨cls,dd,data,sl⟩,ho,hc,n,hd⟩:=id p1
 obtain ⟨⟨cls2,dd2,data2,sl2⟩,ho2,hc2,n2,hd2⟩:=id p2
 simp only at hc hd hc2 hd2
 subst hc hd hc2 hd2
 exact concat_meets ⟨_,ho,rfl⟩ ⟨_,ho2,rfl⟩ noFill_tuple_add seq_tuple_add PySem.F.slot_tuple_add PySem.F.entry_tuple_add (PySem.F.args_tuple_add_2 _ _)
  (tuple_addW0 a b #[] its2.toArray n n2 dd dd2 sl sl2 rfl) ⟨ho,ho2,⟨.ref b,H,I,rfl,q⟩⟩
theorem Cg {m:Bool}{x y:V}{v u:Value}{dx dy:D}{Q:VK}(I:Inv X pins σ H s)(hM:RelM fa X.K μ H M)(h1:Rep fa X.K μ H dx x)(h2:Rep fa X.K μ H dy y)(rx:RelV x v)(ry:RelV y u)
 (h:aq (match kW M dx,kW M dy with|some x,some y=>bQ m (x++y) M|_,_=>.bad) (bJ fa X.K μ H Q)):wpAny (model X.prog X.w) X.A (binaryOp .Add v u) (EP X pins σ Q) X.xe s:=by
 cases e1:kW M dx with
 |none=>rw [e1] at h;exact h.elim
 | some xs =>
   cases e2:kW M dy with
   |none=>rw [e1,e2] at h;exact h.elim
   | some ys =>
     rw [e1,e2] at h
     obtain ⟨a,vs,rfl,ha,ra⟩:=kO hM h1 e1
     obtain ⟨b,ws,rfl,hb,rb⟩:=kO hM h2 e2
     obtain ⟨hz,k⟩:=iD hM (ra.append rb) h
     refine GC pins s σ H _ _ v u Q I rx ry ⟨a,b,vs,ws,rfl,rfl,ha,hb,?_,k⟩
     rw [ra.length,rb.length,<- List.length_append,<- d4];exact hz
theorem J9 (m:Bool):cu X (binaryOp .Add) (nG fa X.K m .add):=by
 intro pins s σ H x y v u Q I rx ry h
 obtain ⟨μ,M,dx,dy,hM,h1,h2,h⟩:=h
 have hi:∀i j,dx=.int i->dy=.int j->wpAny (model X.prog X.w) X.A (binaryOp .Add v u) (EP X pins σ Q) X.xe s:=fun i j e1 e2=>by
  subst e1 e2
  exact GD pins s σ H x y v u Q I rx ry ⟨i,j,h1,h2,bF (v:=.int (i+j)) hM h rfl⟩
 have hs:∀i j,dx=.str i->dy=.str j->wpAny (model X.prog X.w) X.A (binaryOp .Add v u) (EP X pins σ Q) X.xe s:=fun i j e1 e2=>by
  subst e1 e2
  have h:aq (if i.cps.size+j.cps.size<=sz then .ok (.str ⟨i.cps++j.cps⟩) M else .bad) (bJ fa X.K μ H Q):=h
  split at h
  ·next hz=>exact xq pins s σ H x y v u Q I rx ry ⟨i,j,h1,h2,by rw [<- d4];exact hz,bF (v:=.str ⟨i.cps++j.cps⟩) hM h rfl⟩
  ·exact h.elim
 have ht:∀i j,dx=.tup i->dy=.tup j->wpAny (model X.prog X.w) X.A (binaryOp .Add v u) (EP X pins σ Q) X.xe s:=fun i j e1 e2=>by
  subst e1 e2
  have h:aq (if (i++j).length<=sz then .ok (.tup (i++j)) M else .bad) (bJ fa X.K μ H Q):=h
  split at h
  ·next hz=>
   have h:bJ fa X.K μ H Q (.tup (i++j)) M:=h
   obtain ⟨a,vs,e1,ha,ra⟩:=id h1
   obtain ⟨b,ws,e2,hb,rb⟩:=id h2
   by_cases h0:i=[]
   ·subst h0
    obtain rfl:vs=[]:=ra
    exact Br pins s σ H x y v u Q I rx ry ⟨a,b,ws,e1,e2,ha,hb,bF hM h ⟨b,ws,rfl,hb,rb⟩⟩
   ·have hv:vs≠[]:=fun z=>h0 (by have:=ra.length;rw [z] at this;exact List.length_eq_zero_iff.mp this.symm)
    refine Ee pins s σ H x y v u Q I rx ry ⟨a,b,vs,ws,e1,e2,ha,hb,hv,?_,fun z=>?_,fun _=>jo hM (ra.append rb) h⟩
    ·rw [ra.length,rb.length,<- List.length_append,<- d4];exact hz
    ·subst z
     have ej:j=[]:=List.length_eq_zero_iff.mp rb.length.symm
     subst ej
     exact bF hM h ⟨a,vs,rfl,ha,by simpa using ra⟩
  ·exact h.elim
 cases dx<;>cases dy<;>first|exact hi _ _ rfl rfl|exact hs _ _ rfl rfl|exact ht _ _ rfl rfl|exact Cg (m:=m) I hM h1 h2 rx ry h
theorem uc {op:Operator}{o:ph}{m:Bool}{C:Int->Int->Prop}{g:Int->Int->Int}(hr:cu X (binaryOp op) (rI C fun i j=>.int (g i j)))
 (hD:∀dx dy M (P:D->Mem->Prop),aq (fH m o dx dy M) P->∃i j,dx=.int i/\dy=.int j/\C i j/\P (.int (g i j)) M):cu X (binaryOp op) (nG fa X.K m o):=jS hr fun x y H Q h=>by
 obtain ⟨μ,M,dx,dy,hM,h1,h2,h⟩:=h
 obtain ⟨i,j,rfl,rfl,c,q⟩:=hD dx dy M _ h
 exact ⟨i,j,h1,h2,c,bF (v:=.int (g i j)) hM q rfl⟩
theorem J4 (m:Bool):cu X (binaryOp .Sub) (nG fa X.K m .sub):=uc (C:=fun _ _=>True) (g:=fun i j=>i-j) (jS Gu fun x y H Q ⟨i,j,e1,e2,_,q⟩=>⟨i,j,e1,e2,q⟩) fun dx dy M P h=>by
 cases dx<;>cases dy<;>first|exact ⟨_,_,rfl,rfl,trivial,h⟩|exact h.elim
theorem IC (m:Bool):cu X (binaryOp .FloorDiv) (nG fa X.K m .fdiv):=uc Ed fun dx dy M P h=>by
 have key:∀i j,dx=.int i->dy=.int j->∃i j,dx=.int i/\dy=.int j/\IP i j/\P (.int (i / j)) M:=fun i j e1 e2=>by
  subst e1 e2
  have h:aq (if 0<j/\j<1073741824 then .ok (.int (i / j)) M else .bad) P:=h
  split at h
  ·next c=>exact ⟨i,j,rfl,rfl,c,h⟩
  ·exact h.elim
 cases dx<;>cases dy<;>first|exact key _ _ rfl rfl|exact h.elim
theorem J7 (m:Bool):cu X (binaryOp .Mod) (nG fa X.K m .mod):=uc Gy fun dx dy M P h=>by
 have key:∀i j,dx=.int i->dy=.int j->∃i j,dx=.int i/\dy=.int j/\0<j/\P (.int (i % j)) M:=fun i j e1 e2=>by
  subst e1 e2
  have h:aq (if 0<j then .ok (.int (i % j)) M else .bad) P:=h
  split at h
  ·next c=>exact ⟨i,j,rfl,rfl,c,h⟩
  ·exact h.elim
 cases dx<;>cases dy<;>first|exact key _ _ rfl rfl|exact h.elim
theorem J5 (m:Bool):cu X (binaryOp .Pow) (nG fa X.K m .pow):=uc Gw fun dx dy M P h=>by
 have key:∀i j,dx=.int i->dy=.int j->∃i j,dx=.int i/\dy=.int j/\IM i j/\P (.int (i^j.toNat)) M:=fun i j e1 e2=>by
  subst e1 e2
  have h:aq (if 0<=j/\j<=1000000/\i.natAbs<2^64 then .ok (.int (i^j.toNat)) M else .bad) P:=h
  split at h
  ·next c=>exact ⟨i,j,rfl,rfl,c,h⟩
  ·exact h.elim
 cases dx<;>cases dy<;>first|exact key _ _ rfl rfl|exact h.elim
theorem Bd {m:Bool}{x y:V}{v u:Value}{dx:D}{j:Int}{Q:VK}(I:Inv X pins σ H s)(hM:RelM fa X.K μ H M)(h1:Rep fa X.K μ H dx x)(h2:Rep fa X.K μ H (.int j) y)(rx:RelV x v)(ry:RelV y u)
 (h:aq (match kW M dx with|some x=>if x.length*j.toNat<=sz/\-(2^63)<=j/\j<2^63 then bQ m (List.replicate j.toNat x).flatten M else .bad|none=>.bad) (bJ fa X.K μ H Q)) :
 wpAny (model X.prog X.w) X.A (binaryOp .Mult v u) (EP X pins σ Q) X.xe s:=by
 cases e1:kW M dx with
 |none=>rw [e1] at h;exact h.elim
 | some xs =>
   rw [e1] at h
   simp only at h
   split at h
   ·next c=>
    obtain ⟨a,vs,rfl,ha,ra⟩:=kO hM h1 e1
    obtain ⟨hz,k⟩:=iD hM (ra.rep j.toNat) h
    exact Gv pins s σ H _ _ v u Q I rx ry ⟨a,j,vs,rfl,h2,ha,c.2.1,c.2.2,by rw [ra.length,<- d4];exact c.1,k⟩
   ·exact h.elim
end
end LD
namespace LD
open PySem PySem.Spec PyProof.Rows L2 PySem.Builtin
open PySem.Sem (wp)
theorem pP:fillsNumberSlot (.type "tuple") "mul"=pure false:=
 PySem.fillsNumberSlot_seq (id:="tuple.__mul__") (r:=some (.builtin "tuple.__rmul__")) F.slot_tuple_mul.lookup (by decide +kernel) F.slot_tuple_rmul.lookup (by decide +kernel)
theorem uP:seqRepeat? (.type "tuple")=pure (some (.builtin "tuple.__mul__")):=by
 unfold seqRepeat?
 rw [PySem.seqSlot_of (T:="tuple") (name:="__mul__") (id:="tuple.__mul__") F.slot_tuple_mul.lookup (by decide +kernel),PySem.seqSlot_of (T:="tuple") (name:="__rmul__") (id:="tuple.__rmul__") F.slot_tuple_rmul.lookup (by decide +kernel)]
 rfl
theorem rf (a:Int)(t:Tok)(l:Addr)(items:Array Value)(n:Nat)(dd:Option Addr)(sl:Array (Option Value)) :
 Meets (Builtin.«int.__rmul__» ⟨[.int a t,.ref l],[]⟩) (fun _ R s=>s.heap.get? l=some {cls:=.type "tuple",dict:=dd,data:=.seq items n,slots:=sl}/\R (.ok (.ret Value.notImplemented)) s):=
 .of_wp fun prog w A R s h=>by obtain ⟨hp,g,d,tk,os⟩:=s;obtain ⟨hl,h⟩:=h;wp_walk using wpAny_loadPart' hl;exact ⟨_,rfl,h⟩
theorem xp {x:Int}(h0:-(2^63)<=x)(h1:x<2^63):(decide (x < -2^63)||decide (x≥2^63))=false:=by
 rw [decide_eq_false (by omega),decide_eq_false (by omega)];rfl
theorem rM (l:Addr)(items:Array Value)(n:Nat)(dd:Option Addr)(sl:Array (Option Value))(x:Int)(u:Tok)(h0:-(2^63)<=x)(h1:x<2^63)(hc:(items.isEmpty||x==1)=true) :
 Meets (Builtin.«tuple.__mul__» ⟨[.ref l,.int x u],[]⟩) (fun _ R s=>s.heap.get? l=some {cls:=.type "tuple",dict:=dd,data:=.seq items n,slots:=sl}/\R (.ok (.ret (.ref l))) s):=
 .of_wp fun prog w A R s h=>by
  obtain ⟨hp,g,d,tk,os⟩:=s;obtain ⟨hl,h⟩:=h;have f1:=AutoSeq1.idx_int
  wp_walk using wpAny_loadPart' hl
  refine wpAny_ite_false (by rw [xp h0 h1];rfl) ?_
  wp_walk using wpAny_loadPart' hl
  exact ⟨_,rfl,h⟩
theorem rN (l:Addr)(items:Array Value)(n:Nat)(dd:Option Addr)(sl:Array (Option Value))(x:Int)(u:Tok)(h0:-(2^63)<=x)(h1:x<2^63)(hc:(items.isEmpty||x==1)=false)(hc1:(decide (x<=0)||items.isEmpty)=true) :
 Meets (Builtin.«tuple.__mul__» ⟨[.ref l,.int x u],[]⟩) (fun _ R s=>s.heap.get? l=some {cls:=.type "tuple",dict:=dd,data:=.seq items n,slots:=sl}/\R (.ok (.ret (.ref s.heap.objs.size))) {s with heap:=s.heap.push {cls:=Value.type "tuple",data:=Data.seq #[]},toks:=s.toks}):=
 .of_wp fun prog w A R s h=>by
  obtain ⟨hp,g,d,tk,os⟩:=s;obtain ⟨hl,h⟩:=h;have f1:=AutoSeq1.idx_int
  wp_walk using wpAny_loadPart' hl
  refine wpAny_ite_false (by rw [xp h0 h1];rfl) ?_
  wp_walk using wpAny_loadPart' hl
  exact ⟨_,rfl,h⟩
theorem rO (l:Addr)(items:Array Value)(n:Nat)(dd:Option Addr)(sl:Array (Option Value))(x:Int)(u:Tok)(h0:-(2^63)<=x)(h1:x<2^63)(hc:(items.isEmpty||x==1)=false)(hc1:(decide (x<=0)||items.isEmpty)=false)
 (hs:(items.size:Int)*x<=16777216) (hs2:(List.foldl (fun x1 x2=>x1++x2) #[] (List.replicate x.toNat items)).size<=sizeLine) :
 Meets (Builtin.«tuple.__mul__» ⟨[.ref l,.int x u],[]⟩) (fun _ R s=>s.heap.get? l=some {cls:=.type "tuple",dict:=dd,data:=.seq items n,slots:=sl}/\R (.ok (.ret (.ref s.heap.objs.size))) {s with heap:=s.heap.push {cls:=Value.type "tuple",data:=Data.seq (List.foldl (fun x1 x2=>x1++x2) #[] (List.replicate x.toNat items))},toks:=s.toks}):=
 .of_wp fun prog w A R s h=>by
  obtain ⟨hp,g,d,tk,os⟩:=s;obtain ⟨hl,h⟩:=h;have f1:=AutoSeq1.idx_int
  wp_walk using wpAny_loadPart' hl
  refine wpAny_ite_false (by rw [xp h0 h1];rfl) ?_
  wp_walk using wpAny_loadPart' hl
  refine wpAny_ite_false (decide_eq_false (by omega)) ?_
  wp_walk using wpAny_loadPart' hl
  refine wpAny_ite_false (decide_eq_false (by unfold Tuple.tupleTooMany;rw [sizeLine_eq];simp;omega)) ?_
  wp_walk using wpAny_loadPart' hl
  exact ⟨_,rfl,h⟩
section
variable {fa:Fa}{X:Cx}{μ:Mu}{H:Hp}{σ:L2.St}{pins:List (Addr×Obj)}{s:Shared}{M:Mem}
theorem sL (its:List Value)(m:Nat):List.foldl (fun x1 x2=>x1++x2) #[] (List.replicate m its.toArray)=(List.replicate m its).flatten.toArray:=by
 have:=foldl_rep its m []
 rw [List.nil_append] at this
 exact this
theorem Eb:cu X (binaryOp .Mult) (fun x y H Q=>∃l k xs,x=.ref l/\y=.int k/\eD X.K H l xs/\-(2^63)<=k/\k<2^63/\xs.length*k.toNat<=sz/\
 ((List.replicate k.toNat xs).flatten=xs->Q (.ref l) H)/\∀p,H p=none->Q (.ref p) (upd H p (.tup (List.replicate k.toNat xs).flatten))):=by
 intro pins s σ H x y v u Q I rx ry h
 obtain ⟨l,k,xs,rfl,rfl,hq,h1,h2,hz,q1,q2⟩:=h
 cases rx
 obtain ⟨t,rfl⟩:=ry
 obtain ⟨its,r,p,hzz⟩:=I.tuple hq
 have hl:=r.length
 obtain ⟨⟨cls,dd,data,sl⟩,ho,hc,n,hd⟩:=id p
 simp only at hc hd
 subst hc hd
 refine wpAny_binaryOp_repeat_ref (T:="tuple") (U:="int") (by decide) ⟨_,ho,rfl⟩ (fun s'=>typeIs_int s' k t) pP F.fills_int_mul F.slot_int_rmul uP F.slot_int_index.lookup
  (call_meets F.slot_int_rmul (typeIs_int s k t) F.entry_int_rmul (F.args_int_rmul_2 _ _) (rf k t l its.toArray n dd sl) ⟨ho,rfl,⟨_,ho,rfl⟩,?_⟩)
 have new:∀(its':List Value),Vals (List.replicate k.toNat xs).flatten its'->EP X pins σ Q (.ref s.heap.objs.size) {s with heap:=s.heap.push {cls:=Value.type "tuple",data:=Data.seq its'.toArray}}:=fun its' r'=>by
  refine ⟨.ref s.heap.objs.size,_,I.laid (t':=s.toks) (o:=.tup (List.replicate k.toNat xs).flatten) (fun b ob q=>tqc _ q) (tqg _) ?_,rfl,q2 _ (I.hok.fresh (tqg _))⟩
  exact ⟨by rw [len_rep,Nat.mul_comm,<- d4];exact hz,_,r',IsTup.new _ _⟩
 by_cases c1:(its.toArray.isEmpty||k==1)=true
 ·refine call_meets F.slot_tuple_mul ⟨_,ho,rfl⟩ F.entry_tuple_mul (F.args_tuple_mul_2 _ _) (rM l its.toArray n dd sl k t h1 h2 c1) ⟨ho,⟨.ref l,H,I,rfl,q1 ?_⟩⟩
  rcases Bool.or_eq_true_iff.mp c1 with z|z
  ·have e:its=[]:=by simpa using z
   subst e
   have e2:xs=[]:=List.length_eq_zero_iff.mp hl
   subst e2
   simp
  ·have e:k=1:=by simpa using z
   subst e
   simp
 ·have c1':(its.toArray.isEmpty||k==1)=false:=by simpa using c1
  by_cases c2:(decide (k<=0)||its.toArray.isEmpty)=true
  ·refine call_meets F.slot_tuple_mul ⟨_,ho,rfl⟩ F.entry_tuple_mul (F.args_tuple_mul_2 _ _) (rN l its.toArray n dd sl k t h1 h2 c1' c2) ⟨ho,new [] ?_⟩
   have hk:k<=0:=by
    rcases Bool.or_eq_true_iff.mp c2 with z|z
    ·simpa using z
    ·rw [z] at c1';cases c1'
   have hk0:k.toNat=0:=by omega
   rw [hk0];exact .nil
  ·have c2':(decide (k<=0)||its.toArray.isEmpty)=false:=by simpa using c2
   have hk:0<k:=by
    have:=(Bool.or_eq_false_iff.mp c2').1
    simpa using this
   have hs:(its.toArray.size:Int)*k<=16777216:=by
    have e1:(its.toArray.size:Int)*k=((xs.length*k.toNat:Nat):Int):=by
     rw [List.size_toArray,<- hl,Int.natCast_mul,Int.toNat_of_nonneg (by omega)]
    rw [e1]
    have:xs.length*k.toNat<=16777216:=hz
    omega
   have hs2:(List.foldl (fun x1 x2=>x1++x2) #[] (List.replicate k.toNat its.toArray)).size<=sizeLine:=by
    rw [sL,List.size_toArray,len_rep,Nat.mul_comm,<- hl,<- d4];exact hz
   refine call_meets F.slot_tuple_mul ⟨_,ho,rfl⟩ F.entry_tuple_mul (F.args_tuple_mul_2 _ _) (rO l its.toArray n dd sl k t h1 h2 c1' c2' hs hs2) ⟨ho,?_⟩
   rw [sL]
   exact new _ (r.rep k.toNat)
theorem J6 (m:Bool):cu X (binaryOp .Mult) (nG fa X.K m .mul):=by
 intro pins s σ H x y v u Q I rx ry h
 obtain ⟨μ,M,dx,dy,hM,h1,h2,h⟩:=h
 have hi:∀i j,dx=.int i->dy=.int j->wpAny (model X.prog X.w) X.A (binaryOp .Mult v u) (EP X pins σ Q) X.xe s:=fun i j e1 e2=>by
  subst e1 e2
  have h:aq (if (-(2^64)<i/\i<2^64)\/(-(2^64)<j/\j<2^64) then .ok (.int (i*j)) M else .bad) (bJ fa X.K μ H Q):=h
  split at h
  ·next c=>exact Gx pins s σ H x y v u Q I rx ry ⟨i,j,h1,h2,c,bF (v:=.int (i*j)) hM h rfl⟩
  ·exact h.elim
 have ht:∀i j,dx=.tup i->dy=.int j->wpAny (model X.prog X.w) X.A (binaryOp .Mult v u) (EP X pins σ Q) X.xe s:=fun i j e1 e2=>by
  subst e1 e2
  have h:aq (if i.length*j.toNat<=sz/\-(2^63)<=j/\j<2^63 then .ok (.tup (List.replicate j.toNat i).flatten) M else .bad) (bJ fa X.K μ H Q):=h
  split at h
  ·next c=>
   have h:bJ fa X.K μ H Q (.tup (List.replicate j.toNat i).flatten) M:=h
   obtain ⟨a,vs,e1,ha,ra⟩:=id h1
   refine Eb pins s σ H x y v u Q I rx ry ⟨a,j,vs,e1,h2,ha,c.2.1,c.2.2,by rw [ra.length];exact c.1,fun z=>?_,jo hM (ra.rep j.toNat) h⟩
   refine bF hM h ⟨a,vs,rfl,ha,?_⟩
   have:=ra.rep j.toNat
   rw [z] at this
   exact this
  ·exact h.elim
 have hl:∀j,dy=.int j->aq (match kW M dx with|some x=>if x.length*j.toNat<=sz/\-(2^63)<=j/\j<2^63 then bQ m (List.replicate j.toNat x).flatten M else .bad|none=>.bad) (bJ fa X.K μ H Q)->
  wpAny (model X.prog X.w) X.A (binaryOp .Mult v u) (EP X pins σ Q) X.xe s:=fun j e1 h'=>by
  subst e1
  exact Bd (m:=m) I hM h1 h2 rx ry h'
 cases dy with
 |int j=>cases dx<;>first|exact hi _ _ rfl rfl|exact ht _ _ rfl rfl|exact hl _ rfl h
 |_=>cases dx<;>exact h.elim
def binOp:ph->Operator
 |.add=>.Add|.sub=>.Sub|.mul=>.Mult|.fdiv=>.FloorDiv|.mod=>.Mod|.pow=>.Pow
theorem J8 (m:Bool):∀o:ph,cu X (binaryOp (binOp o)) (nG fa X.K m o)
 |.add=>J9 m|.sub=>J4 m|.mul=>J6 m|.fdiv=>IC m|.mod=>J7 m|.pow=>J5 m
end
end LD
namespace LD
open PySem PySem.Spec PyProof.Rows L2
section
variable {fa:Fa}{X:Cx}{μ:Mu}{H:Hp}{σ:L2.St}{pins:List (Addr×Obj)}{s:Shared}{M:Mem}
theorem HJ {r r':R2}(h:mr X r)(i:∀x y H Q,r' x y H Q->r x y H Q):mr X r':=fun value slice pins s σ H x y v u Q I rx ry q hs=>h value slice pins s σ H x y v u Q I rx ry (i x y H Q q) hs
def La (fa:Fa)(K:PySem.W.Frag):R2:=fun x y H Q=>∃μ M dx dy d,RelM fa K μ H M/\Rep fa K μ H dx x/\Rep fa K μ H dy y/\fo dx dy M=some d/\bJ fa K μ H Q d M
theorem vj (n:Nat)(i:Int):LD.bR n i=L2.bR n i:=rfl
theorem JA:mr X (La fa X.K):=HJ HI fun x y H Q h=>by
 obtain ⟨μ,M,dx,dy,d,hM,h1,h2,e,q⟩:=h
 have gen:∀i,dy=.int i->((cL M dx).bind fun ds=>(LD.bR ds.length i).bind fun j=>ds[j]?)=some d->FV X.K x y H Q:=fun i e0 e'=>by
  subst e0
  clear e
  have e:=e'
  clear e'
  cases e1:cL M dx with
  |none=>rw [e1] at e;cases e
  | some ds =>
    rw [e1,Option.bind_some] at e
    obtain ⟨a,vs,rfl,hq,r⟩:=kN hM h1 e1
    cases e2:LD.bR ds.length i with
    |none=>rw [e2] at e;cases e
    | some j =>
      rw [e2,Option.bind_some] at e
      obtain ⟨v,hv,rv⟩:=r.get e
      have he:tx vs i=some v:=by
       unfold tx
       rw [r.length,<- vj,e2];exact hv
      rcases hq with hq|hq
      ·exact .inl ⟨a,vs,i,v,rfl,h2,hq,he,bF hM q rv⟩
      ·exact .inr (.inl ⟨a,vs,i,v,rfl,h2,hq,he,bF hM q rv⟩)
 have str:∀z i,dx=.str z->dy=.int i->FV X.K x y H Q:=fun z i e1 e2=>by
  subst e1 e2
  have e:(if z.cps.size<=sz then (LD.bR z.cps.size i).bind fun j=>(z.cps[j]?).map fun c=>D.str ⟨#[c]⟩ else none)=some d:=e
  split at e
  ·next hz=>
   cases e2:LD.bR z.cps.size i with
   |none=>rw [e2] at e;cases e
   | some j =>
     rw [e2,Option.bind_some] at e
     cases e3:z.cps[j]? with
     |none=>rw [e3] at e;cases e
     | some c =>
       rw [e3] at e
       have e4:D.str ⟨#[c]⟩=d:=Option.some.inj e
       subst e4
       refine .inr (.inr ⟨z,i,c,h1,h2,by rw [<- d4];exact hz,?_,bF hM q rfl⟩)
       unfold tx
       rw [show z.cps.toList.length=z.cps.size by simp,<- vj,e2]
       simpa using e3
  ·cases e
 cases dy with
 |int i=>cases dx<;>first|exact str _ _ rfl rfl|exact gen _ rfl e
 |_=>cases dx<;>cases (show (none:Option D)=some d from e)
theorem FA {r r':V->Option Int->Option Int->Hp->VK->Prop}(h:nh X r)(i:∀x lo hi H Q,r' x lo hi H Q->r x lo hi H Q):nh X r':=fun pins s σ H x v vl vu lo hi sl Q I rx hs pl pu q=>h pins s σ H x v vl vu lo hi sl Q I rx hs pl pu (i x lo hi H Q q)
def qt:D->Option (Option Int)
 |.non=>some none
 |.int i=>some (some i)
 |_=>none
theorem pH (n d:Nat)(x:D):LD.a8 n d x=(qt x).map (HT.a8 n d):=by
 cases x<;>rfl
theorem uG:nh X (fun x lo hi H Q=>∃a xs,x=.ref a/\eD X.K H a xs/\(HT.a8 xs.length 0 lo=0/\HT.a8 xs.length xs.length hi=xs.length)/\Q (.ref a) H):=by
 intro pins s σ H x v vl vu lo hi sl Q I rx hs pl pu h
 obtain ⟨a,xs,rfl,hx,hw,q⟩:=h
 cases rx
 obtain ⟨its,r,ht,hz⟩:=I.tuple hx
 refine ⟨"tuple",_,PyProof.Rows.slot_tuple_getitem.lookup,ht.typeIs,?_⟩
 have hlen:its.toArray.size=xs.length:=by rw [List.size_toArray];exact r.length.symm
 rw [<- hlen] at hw
 obtain ⟨os,hos,hcs,hds⟩:=id hs
 have hTs:s.TypeIs (.ref sl) "slice":=⟨os,hos,hcs⟩
 unfold getItem
 try with_reducible refine tqo ?_
 first|refine tqa (tqb ?_)|skip
 refine tqa (wpAny_sequenceKey ht.typeIs (by decide) ?_)
 refine tqa (wpAny_callSpecial?_slot (name:=Str.ofString "__getitem__") ht.typeIs PyProof.Rows.slot_tuple_getitem
  (wpAny_call_entry PyProof.Rows.slot_tuple_getitem ht.typeIs entry_tuple_getitem ?_ (args_tuple_getitem _ _)))
 show wpAny _ _ (Builtin.Tuple.tupleItemsOf (.ref a) >>= _) _ _ s
 refine tqa (tupleItemsOf_ ht ?_)
 refine tqa (wpAny_typeOf hTs ?_)
 rw [if_pos (by decide)]
 refine tqa (HT.kJ hs pl pu ?_)
 have hyes:(((HT.a8 its.toArray.size 0 lo:Nat):Int)==0&&(1:Int)==1&&(HT.a8 its.toArray.size its.toArray.size hi-HT.a8 its.toArray.size 0 lo)==its.toArray.size)=true:=by
  rw [hw.1,hw.2];simp
 show wpAny _ _ (if (((HT.a8 its.toArray.size 0 lo:Nat):Int)==0&&(1:Int)==1&&(HT.a8 its.toArray.size its.toArray.size hi-HT.a8 its.toArray.size 0 lo)==its.toArray.size)=true then _ else _) _ _ s
 rw [if_pos hyes]
 refine tqa (m:=Builtin.Tuple.tupleIsExact (.ref a)) ?_
 unfold Builtin.Tuple.tupleIsExact
 refine tqa (wpAny_typeOf ht.typeIs ?_)
 refine tqb ?_
 rw [if_pos (by decide)]
 exact tqa (wpAny_rule (tqb ⟨_,rfl,tqb ⟨.ref a,H,I,rfl,q⟩⟩))
def K8 (fa:Fa)(K:PySem.W.Frag)(m:Bool):V->Option Int->Option Int->Hp->VK->Prop:=fun x lo hi H Q=>∃μ M dx dl dh,RelM fa K μ H M/\Rep fa K μ H dx x/\qt dl=some lo/\qt dh=some hi/\aq (eK m dx dl dh M) (bJ fa K μ H Q)
theorem Dz (m:Bool):nh X (K8 fa X.K m):=by
 refine FA (DC.or (Fy.or uG)) fun x lo hi H Q h=>?_
 obtain ⟨μ,M,dx,dl,dh,hM,h1,e1,e2,h⟩:=h
 have gen:aq (match gD M dx with
  | some xs => match LD.a8 xs.length 0 dl, LD.a8 xs.length xs.length dh with
    |some l,some h=>bQ m (cut xs l h) M
    |_,_=>.bad
  |none=>.bad) (bJ fa X.K μ H Q)->FP X.K x lo hi H Q:=fun h=>by
  cases e:gD M dx with
  |none=>rw [e] at h;exact h.elim
  | some xs =>
    rw [e] at h
    simp only [pH,e1,e2,Option.map_some] at h
    obtain ⟨a,vs,rfl,hq,r⟩:=cf hM h1 e
    have hl:=r.length
    obtain ⟨_,k⟩:=iD hM ((r.drop (HT.a8 xs.length 0 lo)).take (HT.a8 xs.length xs.length hi-HT.a8 xs.length 0 lo)) h
    refine ⟨a,vs,rfl,hq,?_⟩
    unfold nY
    rw [hl]
    exact k
 have tup:∀xs,dx=.tup xs->FO X.K x lo hi H Q\/∃a xs,x=.ref a/\eD X.K H a xs/\(HT.a8 xs.length 0 lo=0/\HT.a8 xs.length xs.length hi=xs.length)/\Q (.ref a) H:=fun xs e=>by
  subst e
  have h:aq (match LD.a8 xs.length 0 dl,LD.a8 xs.length xs.length dh with
   |some l,some h=>.ok (.tup (cut xs l h)) M
   |_,_=>.bad) (bJ fa X.K μ H Q):=h
  simp only [pH,e1,e2,Option.map_some] at h
  have h:bJ fa X.K μ H Q (.tup (cut xs (HT.a8 xs.length 0 lo) (HT.a8 xs.length xs.length hi))) M:=h
  obtain ⟨a,vs,rfl,hq,r⟩:=h1
  have hl:=r.length
  by_cases hw:HT.a8 vs.length 0 lo=0/\HT.a8 vs.length vs.length hi=vs.length
  ·refine .inr ⟨a,vs,rfl,hq,hw,?_⟩
   rw [hl] at hw
   have e3:cut xs (HT.a8 xs.length 0 lo) (HT.a8 xs.length xs.length hi)=xs:=by rw [hw.1,hw.2];simp [cut]
   rw [e3] at h
   exact bF hM h ⟨a,vs,rfl,hq,r⟩
  ·refine .inl ⟨a,vs,rfl,hq,hw,?_⟩
   have k:=jo hM ((r.drop (HT.a8 xs.length 0 lo)).take (HT.a8 xs.length xs.length hi-HT.a8 xs.length 0 lo)) h
   unfold nY
   rw [hl]
   exact k
 cases dx<;>first|exact .inr (tup _ rfl)|exact .inl (gen h)
def rg (fa:Fa)(K:PySem.W.Frag)(f:vH):List V->Hp->VK->Prop:=fun vs H Q=>∃μ M ds,RelM fa K μ H M/\a9 fa K μ H ds vs/\aq (gM f ds M) (bJ fa K μ H Q)
theorem qm {d:D}{vs:List V}{K:PySem.W.Frag}(h:a9 fa K μ H [d] vs):∃v,vs=[v]/\Rep fa K μ H d v:=by
 obtain ⟨v,r,rfl,h1,h2⟩:=h
 obtain rfl:r=[]:=h2
 exact ⟨v,rfl,h1⟩
theorem JF:dA X (.builtin "len") (rg fa X.K .len):=mU (vC.or vB) fun vs H Q h=>by
 obtain ⟨μ,M,ds,hM,r,h⟩:=h
 match ds,r,h with
 |[],_,h=>exact h.elim
 |d::_::_,_,h=>cases d<;>exact h.elim
 | [d], r, h =>
   obtain ⟨v,rfl,hv⟩:=qm r
   have gen:aq (match cL M d with|some xs=>.ok (.int xs.length) M|none=>.bad) (bJ fa X.K μ H Q)->∃p ys,[v]=[.ref p]/\(dq X.K H p ys\/eD X.K H p ys)/\Q (.int ys.length) H:=fun h=>by
    cases e:cL M d with
    |none=>rw [e] at h;exact h.elim
    | some xs =>
      rw [e] at h
      obtain ⟨a,vs,rfl,hq,r⟩:=kN hM hv e
      refine ⟨a,vs,rfl,hq,?_⟩
      rw [r.length]
      exact bF (v:=.int xs.length) hM h rfl
   have str:∀x,d=.str x->∃z,[v]=[V.str z]/\z.length<=sizeLine/\Q (.int z.length) H:=fun x e=>by
    subst e
    have h:aq (if x.cps.size<=sz then .ok (.int x.cps.size) M else .bad) (bJ fa X.K μ H Q):=h
    split at h
    ·next c=>exact ⟨x,by rw [show v=.str x from hv],by rw [<- d4];exact c,bF (v:=.int x.cps.size) hM h rfl⟩
    ·exact h.elim
   cases d<;>first|exact .inr (str _ rfl)|exact .inl (gen h)
theorem Eu:dA X (.type "tuple") (rg fa X.K .tuple):=mU tO fun vs H Q h=>by
 obtain ⟨μ,M,ds,hM,r,h⟩:=h
 match ds,r,h with
 |[],_,h=>exact h.elim
 |d::_::_,_,h=>cases d<;>exact h.elim
 | [d], r, h =>
   obtain ⟨v,rfl,hv⟩:=qm r
   have gen:aq (match gD M d with|some xs=>.ok (.tup xs) M|none=>.bad) (bJ fa X.K μ H Q)->∃p ys,[v]=[.ref p]/\((dq X.K H p ys/\∀l,H l=none->Q (.ref l) (upd H l (.tup ys)))\/(eD X.K H p ys/\Q (.ref p) H)):=fun h=>by
    cases e:gD M d with
    |none=>rw [e] at h;exact h.elim
    | some xs =>
      rw [e] at h
      obtain ⟨a,vs,rfl,hq,r⟩:=cf hM hv e
      exact ⟨a,vs,rfl,.inl ⟨hq,jo hM r h⟩⟩
   have tup:∀x,d=.tup x->∃p ys,[v]=[.ref p]/\((dq X.K H p ys/\∀l,H l=none->Q (.ref l) (upd H l (.tup ys)))\/(eD X.K H p ys/\Q (.ref p) H)):=fun x e=>by
    subst e
    obtain ⟨a,vs,rfl,hq,r⟩:=id hv
    exact ⟨a,vs,rfl,.inr ⟨hq,bF hM h hv⟩⟩
   cases d<;>first|exact tup _ rfl|exact gen h
theorem HW (m:Bool):dA X (.type "list") (rg fa X.K (.list m)):=mU vA fun vs H Q h=>by
 obtain ⟨μ,M,ds,hM,r,h⟩:=h
 match ds,r,h with
 |[],_,h=>exact h.elim
 |_::_::_,_,h=>exact h.elim
 | [d], r, h =>
   obtain ⟨v,rfl,hv⟩:=qm r
   have h:aq (match cL M d with|some xs=>bQ m xs M|none=>.bad) (bJ fa X.K μ H Q):=h
   cases e:cL M d with
   |none=>rw [e] at h;exact h.elim
   | some xs =>
     rw [e] at h
     obtain ⟨a,vs,rfl,hq,r⟩:=kN hM hv e
     obtain ⟨_,k⟩:=iD hM r h
     exact ⟨a,vs,rfl,hq,k⟩
end
end LD
namespace LD
open PySem PySem.Spec PyProof.Rows L2
section
variable {fa:Fa}{X:Cx}{μ:Mu}{H:Hp}{σ:L2.St}{pins:List (Addr×Obj)}{s:Shared}{M:Mem}
theorem KJ {d:D}{v:V}{k:Bool}(hM:RelM fa X.K μ H M)(h:Rep fa X.K μ H d v)(e:lN M d=some k):Cn X.K v H k:=by
 cases d with
 |non=>obtain rfl:v=.non:=h;exact (Option.some.inj e).symm
 |bl b=>obtain rfl:v=.bl b:=h;exact (Option.some.inj e).symm
 |int i=>obtain rfl:v=.int i:=h;exact (Option.some.inj e).symm
 | str x =>
   obtain rfl:v=.str x:=h
   have e:(if x.cps.size<=sz then some (x.cps.size != 0) else none)=some k:=e
   split at e
   ·next c=>
    refine ⟨by rw [<- d4];exact c,?_⟩
    rw [<- Option.some.inj e]
    show (x.cps.size != 0)=((x.cps.size:Int) != 0)
    rw [Bool.eq_iff_iff];simp
   ·cases e
 | tup ds =>
   obtain ⟨a,vs,rfl,hq,r⟩:=h
   refine .inr (.inl ⟨vs,hq,?_⟩)
   rw [<- Option.some.inj e]
   have:=r.length
   cases vs<;>cases ds<;>simp_all
 | lst ds =>
   obtain ⟨a,vs,rfl,hq,r⟩:=cf (ds:=ds) hM h rfl
   refine .inl ⟨vs,hq,?_⟩
   rw [<- Option.some.inj e]
   have:=r.length
   cases vs<;>cases ds<;>simp_all
 | frz ds =>
   obtain ⟨a,vs,rfl,hq,r⟩:=cf (ds:=ds) hM h rfl
   refine .inl ⟨vs,hq,?_⟩
   rw [<- Option.some.inj e]
   have:=r.length
   cases vs<;>cases ds<;>simp_all
 | cell c =>
   have e:(M[c]?).map (fun ds=>!ds.isEmpty)=some k:=e
   cases e1:M[c]? with
   |none=>rw [e1] at e;cases e
   | some ds =>
     rw [e1] at e
     obtain ⟨a,vs,rfl,hq,r⟩:=cf (ds:=ds) hM h e1
     refine .inl ⟨vs,hq,?_⟩
     rw [<- Option.some.inj e]
     have:=r.length
     cases vs<;>cases ds<;>simp_all
 |fn f=>cases e
 |exc y p=>cases e
theorem nE:∀{ds:List D}{bs:List Bool}{vs:List V}{us:List Value},boolsOf ds=some bs->a9 fa X.K μ H ds vs->Vals vs us->PyProof.Rows.LSm.BoolsAre us bs:=by
 intro ds
 induction ds with
 | nil =>
   intro bs vs us e h r
   obtain rfl:vs=[]:=h
   cases r;cases e
   exact .nil
 | cons d ds ih =>
   intro bs vs us e h r
   obtain ⟨v,vr,rfl,h1,h2⟩:=h
   cases r with
   | cons r1 r2 =>
     cases d with
     | bl b =>
       have e:(boolsOf ds).map (b::·)=some bs:=e
       cases e1:boolsOf ds with
       |none=>rw [e1] at e;cases e
       | some cs =>
         rw [e1] at e
         have e2:b::cs=bs:=Option.some.inj e
         subst e2
         obtain rfl:v=.bl b:=h1
         obtain rfl:_=Value.bool b:=r1
         exact .cons b (ih e1 h2 r2)
     |_=>cases e
theorem r8:dA X (.builtin "all") (fun xs H Q=>∃μ ds bs p vs,xs=[.ref p]/\X.calm=true/\dq X.K H p vs/\a9 fa X.K μ H ds vs/\boolsOf ds=some bs/\Q (.bl (bs.all id)) H):=by
 intro pins s σ H xs us Q I r h
 obtain ⟨μ,ds,bs,p,vs,rfl,hc,hq,rl,eb,q⟩:=h
 obtain ⟨u,rfl,rx⟩:=vals1 r
 cases rx
 obtain ⟨its,rv,pl,hz⟩:=I.list hq
 have hb:=nE eb rl rv
 have hlt:p<s.heap.objs.size:=pl.lt
 refine call_all_walk (wpAny_pyIter_list pl.isList ?_)
 refine ⟨s.heap.objs.size,[s.heap.objs.size,p],[s.heap.objs.size],its.toArray.size,_,_,fun i=>(bs[i]?).getD true,rfl,Walks.list (A:=X.A.in1) (I.ok.hd hc) _ p (tqk hlt) its.toArray,
  ⟨⟨_,tqe _ rfl,rfl,rfl⟩,pl.isList.push _⟩,fun i v s' Q' E' hP hQ=>?_,fun h' tk hk=>?_⟩
 ·obtain ⟨b,e,rfl⟩:=hb.get i v (by simpa using hP)
  simp only [e,Option.getD_some] at hQ
  exact tqp hQ
 ·have e:((List.range its.toArray.size).all fun i=>(bs[i]?).getD true)=bs.all id:=by
   rw [List.size_toArray,hb.length];exact PyProof.Rows.LSm.range_all bs
  rw [e]
  exact ⟨.bl _,H,I.kept (PyProof.Rows.LSm.kept_iter hk),rfl,q⟩
theorem JG (hc:X.calm=true):dA X (.builtin "all") (rg fa X.K .all):=mU (r8 (fa:=fa)) fun vs H Q h=>by
 obtain ⟨μ,M,ds,hM,r,h⟩:=h
 match ds,r,h with
 |[],_,h=>exact h.elim
 |d::_::_,_,h=>exact h.elim
 | [d], r, h =>
   obtain ⟨v,rfl,hv⟩:=qm r
   have h:aq (match gD M d with|some xs=>(match boolsOf xs with|some bs=>.ok (.bl (bs.all id)) M|none=>.bad)|none=>.bad) (bJ fa X.K μ H Q):=h
   cases e:gD M d with
   |none=>rw [e] at h;exact h.elim
   | some xs =>
     rw [e] at h
     simp only at h
     cases e2:boolsOf xs with
     |none=>rw [e2] at h;exact h.elim
     | some bs =>
       rw [e2] at h
       obtain ⟨a,vs,rfl,hq,r⟩:=cf hM hv e
       exact ⟨μ,xs,bs,a,vs,rfl,hc,hq,r,e2,bF (v:=.bl (bs.all id)) hM h rfl⟩
def tyName:Ty->String
 |.int=>"int" | .bool=>"bool" | .str=>"str" | .tuple=>"tuple" | .list=>"list" | .own _=>""
def Kd:D->String
 |.non=>"NoneType" | .bl _=>"bool" | .int _=>"int" | .str _=>"str" | .tup _=>"tuple" | _=>"list"
theorem IS (t:Ty)(d:D)(b:Bool)(ht:∀c,t≠.own c)(e:bZ t d=some b):PySem.W.kitOne X.K (.type (Kd d)) (.type (tyName t))=some b:=by
 cases t with
 |own c=>exact absurd rfl (ht c)
 |_=>cases d<;>first|(cases (show (none:Option Bool)=some b from e))|(have e':=Option.some.inj e;subst e';(first|rfl|decide +kernel))
theorem AH {d:D}{v:V}{b:Bool}{t:Ty}(hM:RelM fa X.K μ H M)(h:Rep fa X.K μ H d v)(e:bZ t d=some b)(I:Inv X pins σ H s){u c:Value}(r:RelV v u){Q:Value->Shared->Prop}
 (ek:PySem.W.kitOne X.K (.type (Kd d)) c=some b) (q:∀tk,Q (.bool b) {s with toks:=tk}):wpAny (model X.prog X.w) X.A (call (.builtin "isinstance") [u,c]) Q X.xe s:=by
 cases d with
 |non=>obtain rfl:v=.non:=h;exact lF I r .non ek q
 |bl x=>obtain rfl:v=.bl x:=h;exact lF I r (.bl x) ek q
 |int x=>obtain rfl:v=.int x:=h;exact lF I r (.int x) ek q
 |str x=>obtain rfl:v=.str x:=h;exact lF I r (.str x) ek q
 | tup ds =>
   obtain ⟨a,vs,rfl,hq,_⟩:=h
   obtain rfl:u=Value.ref a:=r
   obtain ⟨its,rv,⟨o,h1,h2,_⟩,_⟩:=I.tuple hq
   exact PySem.W.kia_one PySem.W.kitx_tuple I.kIn ⟨o,h1,h2⟩ ek (fun z=>nomatch z) q
 | lst ds =>
   obtain ⟨a,vs,rfl,hq,_⟩:=cf (ds:=ds) hM h rfl
   obtain rfl:u=Value.ref a:=r
   obtain ⟨its,rv,⟨o,n,h1,h2,_⟩,_⟩:=I.list hq
   exact PySem.W.kia_one PySem.W.kitx_list I.kIn ⟨o,h1,h2⟩ ek (fun z=>nomatch z) q
 | frz ds =>
   obtain ⟨a,vs,rfl,hq,_⟩:=cf (ds:=ds) hM h rfl
   obtain rfl:u=Value.ref a:=r
   obtain ⟨its,rv,⟨o,n,h1,h2,_⟩,_⟩:=I.list hq
   exact PySem.W.kia_one PySem.W.kitx_list I.kIn ⟨o,h1,h2⟩ ek (fun z=>nomatch z) q
 | cell k =>
   obtain ⟨a,rfl,hk⟩:=h
   obtain ⟨ds,vs,_,hq,_⟩:=hM.mu_lt hk
   obtain rfl:u=Value.ref a:=r
   obtain ⟨its,rv,⟨o,n,h1,h2,_⟩,_⟩:=I.list (dq.of hq)
   exact PySem.W.kia_one PySem.W.kitx_list I.kIn ⟨o,h1,h2⟩ ek (fun z=>nomatch z) q
 |fn f=>cases e
 |exc y p=>cases e
def Je (fa:Fa)(K:PySem.W.Frag)(t:Ty):List V->Hp->VK->Prop:=fun vs H Q=>∃μ M d v b,vs=[v,.ty (tyName t)]/\RelM fa K μ H M/\Rep fa K μ H d v/\bZ t d=some b/\Q (.bl b) H
theorem HX (t:Ty)(ht:∀c,t≠.own c):dA X (.builtin "isinstance") (Je fa X.K t):=by
 intro pins s σ H xs us Q I r h
 obtain ⟨μ,M,d,v,b,rfl,hM,hv,e,q⟩:=h
 obtain ⟨u,w,rfl,r1,r2⟩:=vals2 r
 obtain rfl:w=Value.type (tyName t):=r2
 exact AH hM hv e I r1 (IS t d b ht e) fun tk=>⟨.bl b,H,I.tok _,rfl,q⟩
end
end LD
namespace LD
open PySem PySem.Spec PyProof.Rows L2
section
variable {fa:Fa}{X:Cx}
abbrev DE (fa:Fa)(X:Cx)(e:Expr)(g:Env->Mem->Res D):Prop:=PE X e (tE fa X.K g)
abbrev DT (fa:Fa)(X:Cx)(e:Expr)(g:Env->Mem->Res Bool):Prop:=PT X e (tT fa X.K g)
abbrev DW (fa:Fa)(X:Cx)(e:Expr)(g:Env->Mem->Res Bool):Prop:=PW X e (tT fa X.K g)
abbrev DA (fa:Fa)(X:Cx)(es:List Expr)(g:Env->Mem->Res (List D)):Prop:=PA X es (tA fa X.K g)
abbrev DS (fa:Fa)(X:Cx)(st:Stmt)(g:Env->Mem->Res Fl):Prop:=PS X st (tF fa X g)
abbrev iq (fa:Fa)(X:Cx)(st:List Stmt)(g:Env->Mem->Res Fl):Prop:=n8 X st (tF fa X g)
variable {a b d:Expr}{ga gb gd:Env->Mem->Res D}{pos:Pos}
theorem JL {i:Nat}{x:Str}(hN:X.N[i]?=some x)(hv:tD X.env.scope x)(hd:(x==("__debug__":Str))=false)(hcd:(x==("__classdict__":Str))=false) :
 DE fa X (.Name x pos) (fun Z M=>dg M (Z[i]?.getD none)):=cq (qs hN hv hd hcd) fun σ H Q ⟨μ,Z,M,hE,hM,h⟩=>by
 obtain ⟨d,e,w⟩:=ow h
 have e':Z[i]?=some (some d):=by
  cases q:Z[i]? with
  |none=>rw [q] at e;cases e
  |some o=>rw [q] at e;simp at e;rw [e]
 obtain ⟨v,h1,h2⟩:=hE.at' i d e'
 exact ⟨v,h1,bF hM w h2⟩
theorem mj {e:Expr}{dc:D}{v:V}(h:PE X e (tC v))(r:∀μ H,Rep fa X.K μ H dc v):DE fa X e (fun _ M=>.ok dc M):=cq h fun σ H Q ⟨μ,Z,M,hE,hM,h⟩=>bF hM h (r μ H)
theorem JV {i:Int}{j:Nat}:DE fa X (.Constant (.int i) j pos) (fun _ M=>.ok (.int i) M):=mj (v:=.int i) zk fun _ _=>rfl
theorem Me {i:Bool}{j:Nat}:DE fa X (.Constant (.bool i) j pos) (fun _ M=>.ok (.bl i) M):=mj (v:=.bl i) xi fun _ _=>rfl
theorem JN {i:Str}{j:Nat}:DE fa X (.Constant (.str i) j pos) (fun _ M=>.ok (.str i) M):=mj (v:=.str i) Gi fun _ _=>rfl
theorem JR {j:Nat}:DE fa X (.Constant .none j pos) (fun _ M=>.ok .non M):=mj (v:=.non) Gn fun _ _=>rfl
theorem t2 {μ:Mu}{H:Hp}{σ:L2.St}{Z:Env}{M:Mem}{β:Type}{f:D->D->Mem->Res β}{P:β->Mem->Prop}{R:V->V->Hp->Prop}(hE:bK fa X.K μ H σ Z)(hM:RelM fa X.K μ H M)
 (h:aq ((ga Z M).bind fun x M=>(gb Z M).bind fun y M=>f x y M) P)
 (k:∀x y M2 v u H2 μ2,Ext μ H μ2 H2->bK fa X.K μ2 H2 σ Z->RelM fa X.K μ2 H2 M2->Rep fa X.K μ2 H2 x v->Rep fa X.K μ2 H2 y u->aq (f x y M2) P->R v u H2) :
 tE fa X.K ga σ H fun v H1=>tE fa X.K gb σ H1 fun u H2=>R v u H2:=
 t1 hE hM h fun x M1 v H1 μ1 x1 hE1 hM1 r1 h1=>t1 hE1 hM1 h1 fun y M2 u H2 μ2 x2 hE2 hM2 r2 h2=>k x y M2 v u H2 μ2 (x1.trans x2) hE2 hM2 (r1.ext x2) r2 h2
theorem JZ (m:Bool)(o:ph)(ha:DE fa X a ga)(hb:DE fa X b gb):DE fa X (.BinOp a (binOp o) b pos) (fun Z M=>(ga Z M).bind fun x M=>(gb Z M).bind fun y M=>fH m o x y M):=
 cq (Jj (J8 m o) ha hb) fun σ H Q ⟨μ,Z,M,hE,hM,h⟩=>t2 hE hM h fun x y M2 v u H2 μ2 x2 hE2 hM2 r1 r2 h2=>⟨μ2,M2,x,y,hM2,r1,r2,l8 h2 x2⟩
theorem qD {r:Option Bool}{M:Mem}{P:D->Mem->Prop}(h:aq ((dg M r).bind fun b M=>.ok (.bl b) M) P):∃b,r=some b/\P (.bl b) M:=by
 obtain ⟨b,M1,e,q⟩:=bp h
 cases r with
 |none=>cases e
 |some b'=>cases e;exact ⟨_,rfl,q⟩
theorem JX (hu:Rm X)(o:iM)(ha:DE fa X a ga)(hb:DE fa X b gb)(hm:behindInMarks (c9 o) b=false) :
 DE fa X (.Compare a [c9 o] [b] pos) (fun Z M=>(ga Z M).bind fun x M=>(gb Z M).bind fun y M=>(dg M (bU o x y M)).bind fun b M=>.ok (.bl b) M):=
 cq (D8 (oN hu o) ha hb hm) fun σ H Q ⟨μ,Z,M,hE,hM,h⟩=>t2 hE hM h fun x y M2 v u H2 μ2 x2 hE2 hM2 r1 r2 h2=>by
  obtain ⟨b,e,q⟩:=qD h2
  exact ⟨μ2,M2,x,y,b,hM2,r1,r2,e,bF (v:=.bl b) hM2 (q.ext x2) rfl⟩
theorem Ie (hu:Rm X)(o:iM)(ha:DE fa X a ga)(hb:DE fa X b gb)(hm:behindInMarks (c9 o) b=false) :
 DT fa X (.Compare a [c9 o] [b] pos) (fun Z M=>((ga Z M).bind fun x M=>(gb Z M).bind fun y M=>(dg M (bU o x y M)).bind fun b M=>.ok (.bl b) M).bind fun x M=>dg M (lN M x)):=
 nI (wb (oN hu o) ha hb hm) fun σ H Q ⟨μ,Z,M,hE,hM,h⟩=>by
  obtain ⟨z,M3,e,q⟩:=bp h
  have h':aq ((ga Z M).bind fun x M=>(gb Z M).bind fun y M=>(dg M (bU o x y M)).bind fun b M=>.ok (.bl b) M) (fun d M=>d=z/\M=M3):=by rw [e];exact ⟨rfl,rfl⟩
  refine t2 hE hM h' fun x y M2 v u H2 μ2 x2 hE2 hM2 r1 r2 h2=>?_
  obtain ⟨b,e1,e2,e3⟩:=qD h2
  subst e2 e3
  exact ⟨μ2,M2,x,y,b,hM2,r1,r2,e1,b,rfl,q H2 μ2 x2 hM2⟩
theorem Dm {g:Env->Mem->Res D}{σ:L2.St}{H:Hp}{Q:Bool->Hp->Prop}(hb:∀Z M x M',g Z M=.ok x M'->∃k,x=.bl k)(h:tT fa X.K (fun Z M=>(g Z M).bind fun x M=>dg M (lN M x)) σ H Q) :
 tE fa X.K g σ H (fun x H'=>∃k,x=.bl k/\Q k H'):=by
 obtain ⟨μ,Z,M,hE,hM,h⟩:=h
 obtain ⟨x,M1,e,q⟩:=bp h
 obtain ⟨k,rfl⟩:=hb Z M x M1 e
 refine ⟨μ,Z,M,hE,hM,?_⟩
 rw [e]
 intro v H1 μ1 x1 m1 r1
 obtain rfl:v=.bl k:=r1
 exact ⟨k,rfl,q H1 μ1 x1 m1⟩
theorem C1 {o o':iM}{gc:Env->Mem->Res D}(σ:L2.St)(H:Hp)(Q:VK):tE fa X.K (fun Z M=>(ga Z M).bind fun x M=>(gb Z M).bind fun y M=>(dg M (bU o x y M)).bind fun k M=>
 if k then (gc Z M).bind fun z M=>(dg M (bU o' y z M)).bind fun b M=>.ok (.bl b) M else .ok (.bl false) M) σ H Q->uv (i7 fa X.K o) (i7 fa X.K o') (tE fa X.K ga) (tE fa X.K gb) (tE fa X.K gc) σ H Q:=fun ⟨μ,Z,M,hE,hM,h⟩=>by
 refine t2 hE hM h fun x y M2 v u H2 μ2 x2 hE2 hM2 r1 r2 h2=>?_
 obtain ⟨k,M3,e,q⟩:=bp h2
 cases ec:bU o x y M2 with
 |none=>rw [ec] at e;cases e
 | some k' =>
   rw [ec] at e
   cases e
   refine ⟨μ2,_,x,y,k,hM2,r1,r2,ec,k,rfl,?_⟩
   cases k with
   |false=>exact bF (v:=.bl false) hM2 (bJ.ext q x2) rfl
   | true =>
     refine t1 hE2 hM2 q fun z M4 w H4 μ4 x4 hE4 hM4 r4 h4=>?_
     obtain ⟨b,e4,q4⟩:=qD h4
     exact ⟨μ4,M4,y,z,b,hM4,r2.ext x4,r4,e4,bF (v:=.bl b) hM4 (q4.ext (x2.trans x4)) rfl⟩
theorem JY (hu:Rm X)(o o':iM){gc:Env->Mem->Res D}(ha:DE fa X a ga)(hb:DE fa X b gb)(hc:DE fa X d gc)(hm:lastMarks [c9 o,c9 o'] [b,d]=false) :
 DE fa X (.Compare a [c9 o,c9 o'] [b,d] pos) (fun Z M=>(ga Z M).bind fun x M=>(gb Z M).bind fun y M=>(dg M (bU o x y M)).bind fun k M=>
  if k then (gc Z M).bind fun z M=>(dg M (bU o' y z M)).bind fun b M=>.ok (.bl b) M else .ok (.bl false) M):=cq (Bl (oN hu o) (oN hu o') ha hb hc hm) C1
theorem Bs {r:Option Bool}{M M':Mem}{x:D}(h:((dg M r).bind fun b M=>Res.ok (.bl b) M)=.ok x M'):∃k,x=.bl k:=by
 cases r with
 |none=>cases h
 |some b=>cases h;exact ⟨b,rfl⟩
theorem fV {α β:Type}{r:Res α}{f:α->Mem->Res β}{x:β}{M:Mem}(h:r.bind f=.ok x M):∃a M1,r=.ok a M1/\f a M1=.ok x M:=by
 cases r with
 |ok a M1=>exact ⟨a,M1,rfl,h⟩
 |err=>cases h
 |bad=>cases h
theorem Ig (hu:Rm X)(o o':iM){gc:Env->Mem->Res D}(ha:DE fa X a ga)(hb:DE fa X b gb)(hc:DE fa X d gc)(hm:lastMarks [c9 o,c9 o'] [b,d]=false) :
 DT fa X (.Compare a [c9 o,c9 o'] [b,d] pos) (fun Z M=>((ga Z M).bind fun x M=>(gb Z M).bind fun y M=>(dg M (bU o x y M)).bind fun k M=>
  if k then (gc Z M).bind fun z M=>(dg M (bU o' y z M)).bind fun b M=>.ok (.bl b) M else .ok (.bl false) M).bind fun x M=>dg M (lN M x)):=
 nI (Bh (oN hu o) (oN hu o') ha hb hc hm) fun σ H Q h=>C1 σ H _ (Dm (fun Z M x M' e=>by
  obtain ⟨x1,M1,_,e⟩:=fV e
  obtain ⟨x2,M2,_,e⟩:=fV e
  obtain ⟨k,M3,_,e⟩:=fV e
  cases k with
  |false=>cases e;exact ⟨_,rfl⟩
  | true =>
    obtain ⟨x4,M4,_,e⟩:=fV e
    exact Bs e) h)
theorem JS (ha:DE fa X a ga):DE fa X (.UnaryOp .USub a pos) (fun Z M=>(ga Z M).bind fun x M=>match x with|.int i=>.ok (.int (-i)) M|_=>.bad):=
 cq (CK yH ha) fun σ H Q ⟨μ,Z,M,hE,hM,h⟩=>t1 hE hM h fun x M1 v H1 μ1 x1 hE1 hM1 r1 h1=>by
  cases x with
  |int i=>exact ⟨i,r1,bF (v:=.int (-i)) hM1 (bJ.ext h1 x1) rfl⟩
  |_=>exact h1.elim
theorem J0 {rest:List Expr}(ha:DE fa X a ga)(hb:DE fa X (.BoolOp .And (b::rest) pos) gb):DE fa X (.BoolOp .And (a::b::rest) pos) (fun Z M=>(ga Z M).bind fun x M=>match x with
 |.bl true=>gb Z M
 |.bl false=>.ok (.bl false) M
 |_=>.bad):=
 cq (Gr ha hb) fun σ H Q ⟨μ,Z,M,hE,hM,h⟩=>t1 hE hM h fun x M1 v H1 μ1 x1 hE1 hM1 r1 h1=>by
  cases x with
  | bl k =>
    refine ⟨k,r1,?_⟩
    cases k with
    |true=>exact ⟨μ1,Z,M1,hE1,hM1,l8 h1 x1⟩
    |false=>exact bF (v:=.bl false) hM1 (bJ.ext h1 x1) rfl
  |_=>exact h1.elim
theorem JP {op:PySem.BoolOp}(ha:DE fa X a ga):DE fa X (.BoolOp op [a] pos) ga:=Gk ha
theorem JQ (ha:DE fa X a ga):DE fa X (.UnaryOp .Not a pos) (fun Z M=>(ga Z M).bind fun x M=>match x with|.bl k=>.ok (.bl (!k)) M|_=>.bad):=
 cq (Gm ha) fun σ H Q ⟨μ,Z,M,hE,hM,h⟩=>t1 hE hM h fun x M1 v H1 μ1 x1 hE1 hM1 r1 h1=>by
  cases x with
  |bl k=>exact ⟨k,r1,bF (v:=.bl (!k)) hM1 (bJ.ext h1 x1) rfl⟩
  |_=>exact h1.elim
variable {ta tb:Env->Mem->Res Bool}
theorem EF (ha:DT fa X a ta):DW fa X (.BoolOp .And [a] pos) ta:=DY ha
theorem H9 (ha:DT fa X a ta):DW fa X (.BoolOp .Or [a] pos) ta:=FX ha
theorem Kk {b':Res Bool}{μ μ':Mu}{H H':Hp}{Q:Bool->Hp->Prop}(x:Ext μ H μ' H')(h:aq b' fun b M'=>∀H'' μ'',Ext μ H μ'' H''->RelM fa X.K μ'' H'' M'->Q b H''):aq b' fun b M'=>∀H'' μ'',Ext μ' H' μ'' H''->RelM fa X.K μ'' H'' M'->Q b H'':=
 bb h fun b M q H'' μ'' y m=>q H'' μ'' (x.trans y) m
theorem Ia {rest:List Expr}(ha:DT fa X a ta)(hb:DW fa X (.BoolOp .And (b::rest) pos) tb):DW fa X (.BoolOp .And (a::b::rest) pos) (fun Z M=>(ta Z M).bind fun k M=>if k then tb Z M else .ok false M):=
 zf (FY ha hb) fun σ H Q ⟨μ,Z,M,hE,hM,h⟩=>yN hE hM h fun k M1 H1 μ1 x1 hE1 hM1 h1=>by
  cases k with
  |true=>exact ⟨μ1,Z,M1,hE1,hM1,Kk x1 h1⟩
  |false=>exact h1 H1 μ1 x1 hM1
theorem JK {rest:List Expr}(ha:DT fa X a ta)(hb:DW fa X (.BoolOp .Or (b::rest) pos) tb):DW fa X (.BoolOp .Or (a::b::rest) pos) (fun Z M=>(ta Z M).bind fun k M=>if k then .ok true M else tb Z M):=
 zf (Jh ha hb) fun σ H Q ⟨μ,Z,M,hE,hM,h⟩=>yN hE hM h fun k M1 H1 μ1 x1 hE1 hM1 h1=>by
  cases k with
  |true=>exact h1 H1 μ1 x1 hM1
  |false=>exact ⟨μ1,Z,M1,hE1,hM1,Kk x1 h1⟩
theorem Ic (ha:DT fa X a ta):DT fa X (.UnaryOp .Not a pos) (fun Z M=>(ta Z M).bind fun k M=>.ok (!k) M):=
 nI (FZ ha) fun σ H Q ⟨μ,Z,M,hE,hM,h⟩=>yN hE hM h fun k M1 H1 μ1 x1 hE1 hM1 h1=>h1 H1 μ1 x1 hM1
theorem B8 (ha:DE fa X a ga)(he:∀whole,isTrue a X.env whole=(do let v <- whole;standAt a.pos;holding [v] (truthy v))):DT fa X a (fun Z M=>(ga Z M).bind fun x M=>dg M (lN M x)):=
 nI (Bg ha he) fun σ H Q ⟨μ,Z,M,hE,hM,h⟩=>t1 hE hM h fun x M1 v H1 μ1 x1 hE1 hM1 r1 h1=>by
  obtain ⟨k,e,q⟩:=ow h1
  exact ⟨k,KJ hM1 r1 e,q H1 μ1 x1 hM1⟩
theorem JU {c:Expr}{gc:Env->Mem->Res Bool}(hc:DT fa X c gc)(ha:DE fa X a ga)(hb:DE fa X b gb):DE fa X (.IfExp c a b pos) (fun Z M=>(gc Z M).bind fun k M=>if k then ga Z M else gb Z M):=
 cq (Bk hc ha hb) fun σ H Q ⟨μ,Z,M,hE,hM,h⟩=>yN hE hM h fun k M1 H1 μ1 x1 hE1 hM1 h1=>by
  cases k with
  |true=>exact ⟨μ1,Z,M1,hE1,hM1,l8 h1 x1⟩
  |false=>exact ⟨μ1,Z,M1,hE1,hM1,l8 h1 x1⟩
theorem JW (ha:DE fa X a ga)(hb:DE fa X b gb)(hs:mq b):DE fa X (.Subscript a b pos) (fun Z M=>(ga Z M).bind fun x M=>(gb Z M).bind fun y M=>dg M (fo x y M)):=
 cq (CM JA ha hb hs) fun σ H Q ⟨μ,Z,M,hE,hM,h⟩=>t2 hE hM h fun x y M2 v u H2 μ2 x2 hE2 hM2 r1 r2 h2=>by
  obtain ⟨d,e,q⟩:=ow h2
  exact ⟨μ2,M2,x,y,d,hM2,r1,r2,e,q.ext x2⟩
def DO (fa:Fa)(X:Cx)(e:Option Expr)(hp:Bool)(g:Env->Mem->Res D):Prop:=PO X e fun σ H Q=>∃μ Z M,bK fa X.K μ H σ Z/\RelM fa X.K μ H M/\aq (g Z M) fun d M'=>∃o,cy hp d=true/\qt d=some o/\∀H' μ',Ext μ H μ' H'->RelM fa X.K μ' H' M'->Q o H'
theorem EJ:DO fa X none false (fun _ M=>.ok .non M):=fun pins s σ H Q I ⟨μ,Z,M,hE,hM,o,_,e,k⟩=>by
 cases e
 exact D4 pins s σ H Q I (k H μ .refl hM)
theorem EI (ha:DE fa X a ga):DO fa X (some a) true ga:=fun pins s σ H Q I ⟨μ,Z,M,hE,hM,h⟩=>D3 ha pins s σ H Q I ⟨μ,Z,M,hE,hM,bb h fun d M' ⟨o,p,e,k⟩ v H' μ' x m r=>by
 cases d with
 |int i=>cases e;exact ⟨i,r,k H' μ' x m⟩
 |_=>cases p⟩
theorem part_of {hp:Bool}{d:D}(h:cy hp d=true):∃o,qt d=some o:=by
 cases hp<;>cases d<;>first|exact ⟨_,rfl⟩|cases h
theorem JO (m hl hh:Bool){lo hi:Option Expr}{gl gh:Env->Mem->Res D}{p2:Pos}(ha:DE fa X a ga)(hlo:DO fa X lo hl gl)(hhi:DO fa X hi hh gh):DE fa X (.Subscript a (.Slice lo hi none p2) pos)
 (fun Z M=>(ga Z M).bind fun x M=>(gl Z M).bind fun l M=>(gh Z M).bind fun h M=>if cy hl l&&cy hh h then eK m x l h M else .bad):=
 cq (uS (Dz (fa:=fa) m) ha hlo hhi) fun σ H Q ⟨μ,Z,M,hE,hM,h⟩=>t1 hE hM h fun x M1 v H1 μ1 x1 hE1 hM1 r1 h1=>by
  obtain ⟨l,M2,e2,h2⟩:=bp h1
  obtain ⟨u,M3,e3,h3⟩:=bp h2
  split at h3
  ·next c=>
   rw [Bool.and_eq_true] at c
   obtain ⟨ol,el⟩:=part_of c.1
   obtain ⟨ou,eu⟩:=part_of c.2
   refine ⟨μ1,Z,M1,hE1,hM1,?_⟩
   rw [e2]
   refine ⟨ol,c.1,el,fun H2 μ2 x2 hM2=>⟨μ2,Z,M2,hE1.ext x2,hM2,?_⟩⟩
   rw [e3]
   exact ⟨ou,c.2,eu,fun H3 μ3 x3 hM3=>⟨μ3,M3,x,l,u,hM3,(r1.ext x2).ext x3,el,eu,l8 h3 ((x1.trans x2).trans x3)⟩⟩
  ·exact h3.elim
theorem Ir:DA fa X [] (fun _ M=>.ok [] M):=zp fb fun σ H Q ⟨μ,Z,M,hE,hM,h⟩=>h [] H μ .refl hM rfl
theorem EU {es:List Expr}{gs:Env->Mem->Res (List D)}(ha:DE fa X a ga)(hs:DA fa X es gs)(h0:starEach (a::es) X.env=(false,eval a X.env)::starEach es X.env) :
 DA fa X (a::es) (fun Z M=>(ga Z M).bind fun x M=>(gs Z M).bind fun xs M=>.ok (x::xs) M):=
 zp (cN ha hs h0) fun σ H Q ⟨μ,Z,M,hE,hM,h⟩=>t1 hE hM h fun x M1 v H1 μ1 x1 hE1 hM1 r1 h1=>uw hE1 hM1 h1 fun xs M2 vs H2 μ2 x2 hE2 hM2 r2 h2=>h2 (v::vs) H2 μ2 (x1.trans x2) hM2 ⟨v,vs,rfl,r1.ext x2,r2⟩
theorem JM {es:List Expr}{gs:Env->Mem->Res (List D)}{k:Nat}(hs:DA fa X es gs):DE fa X (.Tuple es k pos) (fun Z M=>(gs Z M).bind mM):=
 cq (Gh hs) fun σ H Q ⟨μ,Z,M,hE,hM,h⟩=>uw hE hM h fun xs M1 vs H1 μ1 x1 hE1 hM1 r1 h1=>by
  unfold mM at h1
  split at h1
  ·next c=>exact ⟨by rw [r1.length,<- d4];exact c,jo hM1 r1 (bJ.ext h1 x1)⟩
  ·exact h1.elim
theorem JT (m:Bool){es:List Expr}{gs:Env->Mem->Res (List D)}(hs:DA fa X es gs):DE fa X (.List es pos) (fun Z M=>(gs Z M).bind (bQ m)):=
 cq (Gp hs) fun σ H Q ⟨μ,Z,M,hE,hM,h⟩=>uw hE hM h fun xs M1 vs H1 μ1 x1 hE1 hM1 r1 h1=>by
  obtain ⟨c,k⟩:=iD hM1 r1 (l8 h1 x1)
  exact ⟨by rw [r1.length,<- d4];exact c,k⟩
end
end LD
namespace LD
open PySem PySem.Spec PyProof.Rows L2
theorem nW (o:Obj)(f:Array Value->Array Value):(o.mapFields f).dict=o.dict:=by
 obtain ⟨c,d,dt,sl⟩:=o
 cases dt<;>rfl
section
variable {P:Program}{w:World}{M:Model}{A:Around}{E:Value->Shared->Prop}{base:Heap}{env:PySem.Env}{outer:List PySem.Env}{L a C:Addr}{dx:Option Addr}{New:Addr->Prop}{H:Hp}{s:Shared}{Q:Unit->Shared->Prop}
theorem vY {oe:Obj}{vs:Array Value}{head:Value}{had:Bool}(hfr:A.frames=some (env::outer))(hl:s.heap.FunFrames base (env::outer))(hf:env.frame=some L)
 (he:s.heap.get? a=some oe) (hd:oe.data=.fields vs) (hsz:1<vs.size)
 (h:∀h' T oT ts,(∀b o,b∉gK (env::outer)->b≠a->s.heap.get? b=some o->h'.get? b=some o)->(∀b o,b≠a->s.heap.get? b=some o->∃sl,h'.get? b=some {o with slots:=sl})->s.heap.objs.size<=T->T≠a->
  h'.get? a=some (oe.mapFields (·.setIfInBounds 1 (.ref T)))->h'.get? T=some oT->oT.data=.fields ts->ts[3]?=some .none->Q () {s with heap:=h'}) :
 wpAny M A (do let f <- frameOf env;let pl <- entryPlaceOf L had;let b <- EntryCells.newEntry head f .none (rawInt L) .none pl;setField (.ref a) 1 b) (fun _ s'=>wpAny M A (setFlight (.ref a) none) Q E s') E s:=by
 have hene:a∉gK (env::outer):=fun hm=>by
  obtain ⟨_,o,ho,hnf⟩:=hl.mem hm
  rw [he] at ho;cases ho;exact hnf vs hd
 refine tqa (wpAny_frameOf_fun hfr hl hf fun h₁ hs₁=>?_)
 refine tqa (wpAny_entryPlaceOf fun pl hpl=>?_)
 unfold EntryCells.newEntry newFields
 refine tqa (wpAny_newObj_type ?_ (hpl.sizeOk5 _ _ _ _ _))
 have he₁:h₁.get? a=some oe:=(hs₁.2.1 a hene).trans he
 generalize ho:({cls:=.type "traceback",dict:=none,data:=.fields ([head,.ref L,.none,rawInt L,.none]++(if pl.isEmpty then List.replicate 6 Value.none else pl)).toArray}:Obj)=o
 have hod:o.data=.fields ([head,.ref L,.none,rawInt L,.none]++(if pl.isEmpty then List.replicate 6 Value.none else pl)).toArray:=by rw [<- ho]
 have he₂:=tqc (h:=h₁) o he₁
 refine wpAny_setField he₂ hd hsz ?_
 have hTe:h₁.objs.size≠a:=Nat.ne_of_gt (tqd he₁)
 have hd₃:=Obj.data_mapFields hd (·.setIfInBounds 1 (Value.ref h₁.objs.size))
 have he₃:=tqm (Obj.mapFields (·.setIfInBounds 1 (Value.ref h₁.objs.size))) he₂ (Obj.isFreed_of_fields hd₃)
 have hT₃:=(tql (h₁.push o) (Obj.mapFields (·.setIfInBounds 1 (Value.ref h₁.objs.size))) (Ne.symm hTe)).trans (tqe h₁ (Obj.isFreed_of_fields hod))
 unfold setFlight
 refine tqa (tqf he₃ hd₃ (x:=.ref h₁.objs.size) (by simp [hsz]) ?_)
 rw [if_pos (show (Value.ref h₁.objs.size != Value.none)=true from by simp)]
 refine wpAny_setField hT₃ hod (by simp only [List.size_toArray,List.length_append,List.length_cons,List.length_nil]<;>omega) ?_
 have keep:∀b u,b≠a->h₁.get? b=some u->(((h₁.push o).update a (Obj.mapFields (·.setIfInBounds 1 (Value.ref h₁.objs.size)))).update h₁.objs.size (Obj.mapFields (·.setIfInBounds 3 ((none:Option Addr).elim Value.none fun f=>rawInt f)))).get? b=some u:=fun b u hbe hb=>by
  have hbT:h₁.objs.size≠b:=Nat.ne_of_gt (tqd hb)
  rw [tql _ _ hbT,tql _ _ (Ne.symm hbe)]
  exact tqc _ hb
 refine h _ h₁.objs.size _ _ (fun b u hb hbe q=>keep b u hbe ((hs₁.2.1 b hb).trans q)) (fun b u hbe q=>?_) (Nat.le_of_eq hs₁.1.symm) hTe ?_ (tqm _ hT₃ (Obj.isFreed_of_fields (Obj.data_mapFields hod _))) (Obj.data_mapFields hod _) ?_
 ·obtain ⟨sl,e⟩:=hs₁.2.2 b u q
  exact ⟨sl,keep b _ hbe e⟩
 ·rw [tql _ _ hTe];exact he₃
 ·first|(simp;done)|(rcases hpl with rfl|⟨_,_,_,_,_,_,_,rfl⟩<;>simp)
theorem wq (hfr:A.frames=some (env::outer))(hl:s.heap.FunFrames base (env::outer))(hf:env.frame=some L)(hF:og New C dx a s.heap H)(hN:∀b,s.heap.objs.size<=b->New b)(hok:ft P w H s.heap)(hfree:∀b∈gK (env::outer),H b=none)
 (h:∀h' ch,(∀b∈ch,New b/\H b=none/\∃o vs,s.heap.get? b=some o/\o.data=.fields vs)->Un (gK (env::outer)) ch H H s.heap h'->ft P w H h'->og New C dx a h' H->Q () {s with heap:=h'}) :
 wpAny M A (noteFrame (.ref a) env) (fun _ s1=>wpAny M A (setFlight (.ref a) none) Q E s1) E s:=by
 obtain ⟨na,ha,oe,vs,he,hc,hdx,hd,tr⟩:=hF
 have fin:∀h' ch,(∀b∈ch,New b/\H b=none/\∃o vs,s.heap.get? b=some o/\o.data=.fields vs)->(∀b o,b∉gK (env::outer)->b∉ch->s.heap.get? b=some o->h'.get? b=some o)->(∀b o,b∉ch->s.heap.get? b=some o->∃sl,h'.get? b=some {o with slots:=sl})->og New C dx a h' H->Q () {s with heap:=h'}:=fun h' ch hch keep slot fl=>by
  refine h h' ch hch ⟨fun b o q _ hb hx=>keep b o hb hx q,fun b o q _ _ hx=>slot b o hx q,fun _ _ _ n _=>n,fun b o q hx=>let ⟨sl,e⟩:=slot b o hx q;⟨_,e⟩,fun _ _ e=>e,fun _ _ _ e=>e,fun b ps e=>⟨#[],by rw [e];simp⟩⟩ (fun b u e=>(hok b u e).stay (fun c v hc q=>?_) (fun _ q=>q) fun _ _ q=>q) fl
  have nn:H c≠none:=by rcases hc with z|z<;>(intro z';first|(rw [z,e] at z';cases z')|(rw [z] at z';cases z'))
  exact keep c v (fun z=>nn (hfree c z)) (fun z=>nn (hch c z).2.1) q
 unfold noteFrame
 simp only [hf]
 rcases tr with h1|⟨T,oT,ts,h1,hTa,nT,hT0,hT,hdT,h3⟩
 ·refine tqa (tqf he hd h1 ?_)
  rw [if_neg (by decide)]
  refine vY hfr hl hf he hd (Array.getElem?_eq_some_iff.mp h1).1 fun h' T oT ts k1 k2 k3 k4 k5 k6 k7 k8=>?_
  refine fin h' [a] (fun b hb=>?_) (fun b o hb hx q=>k1 b o hb (fun z=>hx (by simp [z])) q) (fun b o hx q=>k2 b o (fun z=>hx (by simp [z])) q) ⟨na,ha,_,_,k5,?_,?_,Obj.data_mapFields hd _,.inr ⟨T,oT,ts,by simp [(Array.getElem?_eq_some_iff.mp h1).1],k4,hN _ k3,hok.fresh k3,k6,k7,k8⟩⟩
  ·rcases List.mem_singleton.mp hb with rfl
   exact ⟨na,ha,oe,vs,he,hd⟩
  ·rw [Obj.cls_mapFields];exact hc
  ·rw [nW];exact hdx
 ·refine tqa (tqf he hd h1 ?_)
  rw [if_pos (show (Value.ref T != Value.none)=true from by simp)]
  refine tqa (tqf hT hdT h3 ?_)
  rw [if_neg (show ¬ ((Value.none==rawInt L)=true) from by simp [rawInt])]
  refine tqa (wpAny_setField hT hdT (Array.getElem?_eq_some_iff.mp h3).1 ?_)
  have other:∀b,b≠T->(s.heap.update T (Obj.mapFields (·.setIfInBounds 3 Value.none))).get? b=s.heap.get? b:=fun b hb=>tql _ _ (Ne.symm hb)
  have noRec:∀b o,s.heap.get? b=some o->(∀vs,o.data≠.fields vs)->b≠T:=fun b o hb hnf q=>by
   rw [q,hT] at hb;cases hb;exact hnf ts hdT
  have hz:(s.heap.update T (Obj.mapFields (·.setIfInBounds 3 Value.none))).objs.size=s.heap.objs.size:=Heap.size_after_update ..
  refine vY (s:={s with heap:=s.heap.update T (Obj.mapFields (·.setIfInBounds 3 Value.none))}) hfr (hl.of_keeps fun b o hb hnf=>⟨o,(other b (noRec b o hb hnf)).trans hb,rfl⟩) hf ((other a (Ne.symm hTa)).trans he) hd (Array.getElem?_eq_some_iff.mp h1).1 fun h' T' oT' ts' k1 k2 k3 k4 k5 k6 k7 k8=>?_
  have k3:s.heap.objs.size<=T':=by rw [<- hz];exact k3
  refine fin h' [a,T] (fun b hb=>?_) (fun b o hb hx q=>k1 b o hb (fun z=>hx (by simp [z])) ((other b (fun z=>hx (by simp [z]))).trans q)) (fun b o hx q=>k2 b o (fun z=>hx (by simp [z])) ((other b (fun z=>hx (by simp [z]))).trans q)) ⟨na,ha,_,_,k5,?_,?_,Obj.data_mapFields hd _,.inr ⟨T',oT',ts',by simp [(Array.getElem?_eq_some_iff.mp h1).1],k4,hN _ k3,hok.fresh k3,k6,k7,k8⟩⟩
  ·rcases List.mem_cons.mp hb with rfl|hb
   ·exact ⟨na,ha,oe,vs,he,hd⟩
   ·rcases List.mem_singleton.mp hb with rfl
    exact ⟨nT,hT0,oT,ts,hT,hdT⟩
  ·rw [Obj.cls_mapFields];exact hc
  ·rw [nW];exact hdx
end
def iN (P:Program)(w:World):pf:=fun outer H s E e s'=>∃a C dx H',e=.ref a/\s'.os=s.os/\AllBare s'.gens/\Un (gK outer) [] H H' s.heap s'.heap/\ft P w H' s'.heap/\og (fun b=>s.heap.get? b=none) C dx a s'.heap H'/\E (.ref C) dx H'
theorem og.imp {New New':Addr->Prop}{C a:Addr}{dx:Option Addr}{h:Heap}{H:Hp}(f:og New C dx a h H)(i:∀b,New b->New' b):og New' C dx a h H:=by
 obtain ⟨na,ha,o,vs,h1,h2,h3,h4,tr⟩:=f
 refine ⟨i _ na,ha,o,vs,h1,h2,h3,h4,?_⟩
 rcases tr with t|⟨T,oT,ts,t1,t2,t3,t4⟩
 ·exact .inl t
 ·exact .inr ⟨T,oT,ts,t1,t2,i _ t3,t4⟩
section
variable {P:Program}{w:World}{K:PySem.W.Frag}{mg:Str->Option Value}{base:Heap}{N:List Str}{qual:Str}{scope:Scope}{f:Addr}{cd:Value}{A:Around}{outer:List PySem.Env}{s:Shared}{H:Hp}{E:XK}
theorem BN {pins:List (Addr×Obj)}{σ:L2.St}{H':Hp}{s':Shared}{a C:Addr}{dx:Option Addr}(I:Inv (gx (iN P w) P w K mg base N qual scope f cd A outer s H E) pins σ H' s')(hF:og (oa (gx (iN P w) P w K mg base N qual scope f cd A outer s H E)) C dx a s'.heap H')(hE:E (.ref C) dx H') :
 (gx (iN P w) P w K mg base N qual scope f cd A outer s H E).xe (.ref a) s':=by
 have hst:=I.stack
 have hsz:s.heap.objs.size<=s'.heap.objs.size:=I.sz
 have hL:∀b o,s.heap.get? b=some o->b∈gK (envOfC qual scope s.heap.objs.size f cd::outer)->b∈gK outer:=fun b o q hb=>by
  rcases List.mem_cons.mp (show b∈s.heap.objs.size::gK outer from hb) with e|e
  ·exact absurd (tqd q) (by rw [e];exact tqn _)
  ·exact e
 unfold gx
 dsimp only
 unfold leaving
 refine tqa (wq (P:=P) (w:=w) (New:=fun b=>s.heap.get? b=none) I.ok.frames hst rfl (hF.imp fun b z=>z.1) (fun b z=>Heap.get?_none_of_le (tqh hsz z)) I.hok I.stkFree fun h' ch hch u hok fl=>?_)
 have nch:∀b o,s.heap.get? b=some o->b∉ch:=fun b o q z=>by have:=(hch b z).1;rw [q] at this;cases this
 have hb0:Un (gK outer) [] H H' s.heap s'.heap:=I.base
 refine ⟨a,C,dx,H',rfl,I.os,I.bare,⟨fun b o q n hb hx=>?_,fun b o q n hb hx=>?_,hb0.free,fun b o q hx=>?_,hb0.tups,hb0.frzs,hb0.tbls⟩,hok,fl,hE⟩
 ·exact u.keep b o (hb0.keep b o q n hb hx) (hb0.free b o q n hx) (fun z=>hb (hL b o q z)) (nch b o q)
 ·obtain ⟨sl,e⟩:=hb0.slot b o q n hb hx
  obtain ⟨sl',e'⟩:=u.any e (hb0.free b o q n hx) (nch b o q)
  exact ⟨sl',e'⟩
 ·obtain ⟨o',e⟩:=hb0.there b o q hx
  exact u.there b o' e (nch b o q)
end
section
variable {X:Cx}{pins:List (Addr×Obj)}{σ:L2.St}{H H':Hp}{s s':Shared}{E:XK}{e:Value}
theorem zP (I:Inv X pins σ H s)(hx:X.ex=[])(h:iN X.prog X.w X.stack H s E e s'):∃a C dx H',e=.ref a/\Inv X pins σ H' s'/\og (oa X) C dx a s'.heap H'/\E (.ref C) dx H':=by
 obtain ⟨a,C,dx,H',rfl,os,bare,un,hok,fl,q⟩:=h
 refine ⟨a,C,dx,H',rfl,I.call' os un hok bare (fun b z=>absurd z (by simp)),fl.imp fun b z=>⟨?_,fun p hp e=>?_⟩,q⟩
 ·cases e:X.s₀.heap.get? b with
  |none=>rfl
  | some o =>
    obtain ⟨o',e'⟩:=I.base.there b o e (by rw [hx];simp)
    rw [z] at e';cases e'
 ·have:=(I.pin p (List.mem_append_left _ hp)).1
  rw [e,z] at this;cases this
theorem BW {h':Heap}{ch:List Addr}(I:Inv X pins σ H s)(hch:∀b∈ch,X.s₀.heap.get? b=none/\(∃o vs,s.heap.get? b=some o/\o.data=.fields vs)/\∀p∈X.pn++pins,p.1≠b)(u:Un (gK X.stack) ch H H s.heap h')(hok:ft X.prog X.w H h'):Inv X pins σ H {s with heap:=h'}:=by
 obtain ⟨m,⟨o,es,ep,ho,hd,r⟩,hl⟩:=id I.loc
 have neL:X.env.locals∉ch:=fun z=>by
  obtain ⟨o',vs,e,d⟩:=(hch _ z).2.1
  rw [ho] at e;cases e;rw [hd] at d;cases d
 have neC:∀x c,X.env.cells.lookup x=some c->c∉ch:=fun x c e z=>by
  obtain ⟨o',vs,e',d⟩:=(hch _ z).2.1
  obtain ⟨v,o2,e2,d2⟩:=I.cell x c e
  rw [e2] at e';cases e';rw [d2] at d;cases d
 have n0:∀b o,X.s₀.heap.get? b=some o->b∉ch:=fun b o e z=>by rw [(hch b z).1] at e;cases e
 have nst:∀b o,X.s₀.heap.get? b=some o->b∉X.fs->b∉gK X.stack:=fun b o e n z=>(List.mem_cons.mp (I.stkSub b z)).elim (fun q=>absurd (tqd e) (by rw [q];exact Nat.not_lt.mpr I.ok.above)) n
 obtain ⟨sl,hL⟩:=u.any ho I.free neL
 have cellK:∀x c,X.env.cells.lookup x=some c->∀v,s.heap.IsCell c v->h'.IsCell c v:=fun x c e v ⟨o,ho,hd⟩=>by
  obtain ⟨sl,q⟩:=u.any ho (I.freeC x c e) (neC x c e)
  exact ⟨_,q,hd⟩
 refine ⟨I.ok,I.os,I.bare,⟨fun b o e n hb hx=>?_,fun b o e n hb hx=>?_,I.base.free,fun b o e hx=>?_,I.base.tups,I.base.frzs,I.base.tbls⟩,⟨m,⟨_,es,ep,hL,hd,r⟩,fun i x v e1 e2 e3=>?_⟩,fun x c e=>?_,I.free,I.freeC,fun p hp=>?_,hok,I.len⟩
 ·exact u.keep b o (I.base.keep b o e n hb hx) (I.base.free b o e n hx) (nst b o e hb) (n0 b o e)
 ·obtain ⟨sl,e1⟩:=I.base.slot b o e n hb hx
  obtain ⟨sl',e2⟩:=u.any e1 (I.base.free b o e n hx) (n0 b o e)
  exact ⟨sl',e2⟩
 ·obtain ⟨o',e1⟩:=I.base.there b o e hx
  exact u.there b o' e1 (n0 b o e)
 ·obtain ⟨u',r',l⟩:=hl i x v e1 e2 e3
  refine ⟨u',r',?_⟩
  rcases l with l|⟨k,c,e,z⟩
  ·exact .inl l
  ·exact .inr ⟨k,c,e,cellK x c e _ z⟩
 ·obtain ⟨v,z⟩:=I.cell x c e
  exact ⟨v,cellK x c e v z⟩
 ·obtain ⟨e,n,ne,nf,d⟩:=I.pin p hp
  exact ⟨u.keep p.1 p.2 e n (fun z=>(List.mem_cons.mp (I.stkSub _ z)).elim ne nf) fun z=>(hch _ z).2.2 p hp rfl,n,ne,nf,d⟩
theorem sT {a:Addr}{o:HO}(I:Inv X pins σ H s)(hx:X.ex=[])(hn:H a=none)(h0:X.s₀.heap.get? a=none)(hf:∃ob vs,s.heap.get? a=some ob/\ob.data=.fields vs)(hp:∀p∈X.pn++pins,p.1≠a)(new:dz X.prog X.w (upd H a o) s.heap a o):Inv X pins σ (upd H a o) s:=by
 obtain ⟨ob,vs,hob,hd⟩:=hf
 have ne:∀b u,H b=some u->b≠a:=fun b u e=>bz e hn
 refine ⟨I.ok,I.os,I.bare,⟨I.base.keep,I.base.slot,fun b o e n hx=>?_,I.base.there,fun b xs e=>?_,fun b o u e=>?_,fun b ps e=>?_⟩,I.loc,I.cell,?_,fun x c e=>?_,fun p hp'=>?_,fun b u e=>?_,I.len⟩
 ·rw [aX (fun z=>by rw [z,h0] at e;cases e)];exact I.base.free b o e n hx
 ·have q:=I.base.tups b xs e
  rw [aX (ne b _ q)];exact q
 ·have q:=I.base.frzs b o u e
  rw [aX (ne b _ q)];exact q
 ·obtain ⟨m,q⟩:=I.base.tbls b ps e
  exact ⟨m,by rw [aX (ne b _ q)];exact q⟩
 ·obtain ⟨m,⟨oL,es,ep,ho,hdL,_⟩,_⟩:=id I.loc
  rw [aX (fun z=>by rw [z,hob] at ho;cases ho;rw [hd] at hdL;cases hdL)];exact I.free
 ·obtain ⟨v,o2,e2,d2⟩:=I.cell x c e
  rw [aX (fun z=>by rw [z,hob] at e2;cases e2;rw [hd] at d2;cases d2)];exact I.freeC x c e
 ·obtain ⟨e,n,r⟩:=I.pin p hp'
  exact ⟨e,by rw [aX (hp p hp')];exact n,r⟩
 ·by_cases hb:b=a
  ·subst hb
   rw [cn] at e;cases e
   exact new
  ·rw [aX hb] at e
   exact (I.hok b u e).stay (fun c v _ q=>q) (fun c q=>by rw [aX (ne c _ q)];exact q) fun c xs q=>by rw [aX (ne c _ q)];exact q
end
def lA {α:Type}(r:Res α)(k:α->Mem->Prop)(kx:D->Mem->Prop):Prop:=match r with
 |.ok a M=>k a M
 |.err x M=>kx x M
 |.bad=>False
theorem GG {α:Type}{r:Res α}{k:α->Mem->Prop}{kx:D->Mem->Prop}(h:aq r k):lA r k kx:=by
 cases r with
 |ok a M=>exact h
 |err=>exact h.elim
 |bad=>exact h
def yv (fa:Fa)(K:PySem.W.Frag)(μ:Mu)(H:Hp)(E:XK)(x:D)(M':Mem):Prop:=∀C dx c p H' μ',Ext μ H μ' H'->RelM fa K μ' H' M'->x=.exc c p->fa (dE c)=some C->yu H' c dx p->E (.ref C) dx H'
theorem CN {P:Program}{w:World}{X:Cx}:Passes (iN P w) X E0:=fun _ _ _ _ _ _ _ h=>let ⟨_,_,_,_,_,_,_,_,_,_,z⟩:=h;z.elim
end LD
namespace LD
open PySem PySem.Spec PyProof.Rows L2
def Ft (fa:Fa)(K:PySem.W.Frag)(k:Nat)(call:List D->Mem->Res D):Sp:=fun vs H Q E=>vs.length=k/\∃μ M ds,RelM fa K μ H M/\a9 fa K μ H ds vs/\lA (call ds M) (bJ fa K μ H Q) (yv fa K μ H E)
def ir (fa:Fa)(P:Program)(w:World)(K:PySem.W.Frag)(mg:Str->Option Value)(base:Heap)(n:Nat)(f:Nat)(call:List D->Mem->Res D):Prop:=
 (∀ds M,call ds M=.bad)\/∃(ad:Addr) (fd:FuncData) (ps:List Str),fa f=some ad/\PySem.W.keepIn K (.ref ad)=true/\Binds K fd ps []/\(∀ds M,ds.length≠ps.length->call ds M=.bad)/\lV P w K mg base (iN P w) (n+4) ad fd ps (Ft fa K ps.length call)
section
variable {fa:Fa}{X:Cx}{a b d:Expr}{ga gb gd:Env->Mem->Res D}{pos p:Pos}{es:List Expr}{gs:Env->Mem->Res (List D)}{n:Nat}
theorem An {call:List D->Mem->Res D}{P:D->Mem->Prop}{r:Res (List D)}(hb:∀ds M,call ds M=.bad)(h:aq (r.bind fun ds M=>call ds M) P):False:=by
 obtain ⟨ds,M,_,q⟩:=bp h
 rw [hb] at q
 exact q
theorem s8 {call:List D->Mem->Res D}{k:Nat}{σ:L2.St}{H:Hp}{Q:VK}{μ:Mu}{Z:Env}{M:Mem}(hE:bK fa X.K μ H σ Z)(hM:RelM fa X.K μ H M)(h:aq ((gs Z M).bind fun ds M=>call ds M) (bJ fa X.K μ H Q))
 (hk:∀ds M1,ds.length≠k->call ds M1=.bad):CB (Ft fa X.K k call) [] E0 (tA fa X.K gs) σ H Q:=by
 refine uw hE hM h fun ds M1 vs H1 μ1 x1 hE1 hM1 r1 h1=>?_
 rw [List.append_nil]
 refine ⟨?_,μ1,M1,ds,hM1,r1,GG (l8 h1 x1)⟩
 rw [r1.length]
 by_cases hl:ds.length=k
 ·exact hl
 ·rw [hk ds M1 hl] at h1;exact h1.elim
theorem Iv {f:Nat}{x:Str}{call:List D->Mem->Res D}(C:ir fa X.prog X.w X.K X.mg X.base n f call)(hr:cC (n+4) X.A)(hg:Gl X x)(hm:∀ad,fa f=some ad->X.mg x=some (.ref ad))(hs:DA fa X (a::es) gs)
 (hdb:(x==("__debug__":Str))=false) (he:starEach (a::es) X.env=(false,eval a X.env)::starEach es X.env) (hpl:(backTo pos (starEach es X.env)).any (·.1)=false) :
 DE fa X (.Call (.Name x p) (a::es) [] pos) (fun Z M=>(gs Z M).bind fun ds M=>call ds M):=by
 rcases C with hb|⟨ad,fd,ps,h1,h2,h3,h4,F⟩
 ·exact fun pins s σ H Q I ⟨μ,Z,M,hE,hM,h⟩=>(An hb h).elim
 ·exact cq (D9 F hr hg (hm ad h1) h2 h3 .nil CN hs hdb he hpl) fun σ H Q ⟨μ,Z,M,hE,hM,h⟩=>s8 hE hM h h4
theorem EV {i:Nat}{x:Str}{call:Nat->List D->Mem->Res D}(C:∀f,ir fa X.prog X.w X.K X.mg X.base n f (call f))(hr:cC (n+4) X.A)(hN:X.N[i]?=some x)(hv:tD X.env.scope x)(hs:DA fa X (a::es) gs)
 (hd:(x==("__debug__":Str))=false) (hcd:(x==("__classdict__":Str))=false) (he:starEach (a::es) X.env=(false,eval a X.env)::starEach es X.env) (hpl:(backTo pos (starEach es X.env)).any (·.1)=false) :
 DE fa X (.Call (.Name x p) (a::es) [] pos) (fun Z M=>match Z[i]?.getD none with|some (.fn f)=>(gs Z M).bind fun ds M=>call f ds M|_=>.bad):=by
 intro pins s σ H Q I ⟨μ,Z,M,hE,hM,h⟩
 dsimp only at h
 cases e:Z[i]?.getD none with
 |none=>rw [e] at h;exact h.elim
 | some df =>
   cases df with
   | fn f =>
     rw [e] at h
     simp only at h
     have e':Z[i]?=some (some (.fn f)):=by
      cases q:Z[i]? with
      |none=>rw [q] at e;cases e
      |some o=>rw [q] at e;simp at e;rw [e]
     obtain ⟨v,hv1,hv2⟩:=hE.at' i _ e'
     obtain ⟨ad,rfl,had⟩:=hv2
     rcases C f with hb|⟨ad',fd,ps,h1,h2,h3,h4,F⟩
     ·exact (An hb h).elim
     ·rw [had] at h1;cases h1
      refine wpAny_Call_Name_kw (bx (qs hN hv hd hcd pins s σ H (fun v H'=>v=.ref ad/\H'=H) I ⟨_,hv1,rfl,rfl⟩) fun u s1 ⟨v,H1,I1,r1,e1,e2⟩=>?_)
      subst e1 e2
      obtain rfl:u=Value.ref ad:=r1
      refine PySem.W.callWith_K (h₀:=X.base) I1.ok.mod.kin h2 (bx (hs pos pins s1 σ H1 _ I1 (s8 hE hM h h4)) fun us s2 ⟨vs,H2,I2,r,q⟩=>⟨I2.kIn,?_⟩) he hpl
      exact zd F hr h3 .nil CN I2 r q
   |_=>rw [e] at h;exact h.elim
theorem C7 (f:vH){x:Str}{id:String}(hc:dA X (.builtin id) (rg fa X.K f))(hg:Gl X x)(hm:X.mg x=none)(hv:bootBuiltins x=some (.builtin id))(hs:DA fa X (a::es) gs)(hn:x≠"__name__")(hdb:(x==("__debug__":Str))=false)
 (he:starEach (a::es) X.env=(false,eval a X.env)::starEach es X.env) (hpl:(backTo pos (starEach es X.env)).any (·.1)=false):DE fa X (.Call (.Name x p) (a::es) [] pos) (fun Z M=>(gs Z M).bind fun ds M=>gM f ds M):=
 cq (jw hc hg hm hv hs hn hdb he hpl) fun σ H Q ⟨μ,Z,M,hE,hM,h⟩=>uw hE hM h fun ds M1 vs H1 μ1 x1 hE1 hM1 r1 h1=>⟨μ1,M1,ds,hM1,r1,l8 h1 x1⟩
theorem Ae (f:vH){x:Str}{T:String}(hc:dA X (.type T) (rg fa X.K f))(hg:Gl X x)(hm:X.mg x=none)(hv:bootBuiltins x=some (.type T))(hs:DA fa X (a::es) gs)(hn:x≠"__name__")(hdb:(x==("__debug__":Str))=false)
 (he:starEach (a::es) X.env=(false,eval a X.env)::starEach es X.env) (hpl:(backTo pos (starEach es X.env)).any (·.1)=false):DE fa X (.Call (.Name x p) (a::es) [] pos) (fun Z M=>(gs Z M).bind fun ds M=>gM f ds M):=
 cq (zm hc hg hm hv hs hn hdb he hpl) fun σ H Q ⟨μ,Z,M,hE,hM,h⟩=>uw hE hM h fun ds M1 vs H1 μ1 x1 hE1 hM1 r1 h1=>⟨μ1,M1,ds,hM1,r1,l8 h1 x1⟩
theorem Iu (t:Ty)(ht:∀c,t≠.own c){x:Str}{p1 p2:Pos}(ha:DE fa X a ga)(hg:Gl X "isinstance")(hm:X.mg "isinstance"=none)(hv:bootBuiltins "isinstance"=some (.builtin "isinstance"))(hgt:Gl X x)(hmt:X.mg x=none)(hvt:bootBuiltins x=some (.type (tyName t)))
 (hn:x≠"__name__") (hdb:(x==("__debug__":Str))=false)
 (he:starEach [a,.Name x p1] X.env=(false,eval a X.env)::starEach [.Name x p1] X.env):DE fa X (.Call (.Name "isinstance" p2) [a,.Name x p1] [] pos) (fun Z M=>(ga Z M).bind fun x M=>(dg M (bZ t x)).bind fun b M=>.ok (.bl b) M):=
 cq (jw (HX (fa:=fa) t ht) hg hm hv (cN ha (cN (wj hgt hmt hvt (v:=.ty (tyName t)) rfl hn hdb) fb (by rfl)) he) (by decide) (by decide) he (by rfl)) fun σ H Q ⟨μ,Z,M,hE,hM,h⟩=>t1 hE hM h fun x M1 v H1 μ1 x1 hE1 hM1 r1 h1=>by
  obtain ⟨b,e,q⟩:=qD h1
  exact ⟨μ1,M1,x,v,b,rfl,hM1,r1,e,bF (v:=.bl b) hM1 (q.ext x1) rfl⟩
def gT (fa:Fa)(K:PySem.W.Frag)(t:dN):TG:=fun v σ H Q=>∃μ Z M d ρ1,bK fa K μ H σ Z/\RelM fa K μ H M/\Rep fa K μ H d v/\dw t d Z=some ρ1/\∀σ1,bK fa K μ H σ1 ρ1->Q σ1 H
theorem zj {tg:Expr}{g g':TG}(h:PG X tg g)(i:∀v σ H Q,g' v σ H Q->g v σ H Q):PG X tg g':=fun pins s σ H v u Q I r q=>h pins s σ H v u Q I r (i v σ H Q q)
theorem we {tg:List Expr}{g g':qV}(h:vG X tg g)(i:∀v σ H Q,g' v σ H Q->g v σ H Q):vG X tg g':=fun pins s σ H v u Q I r q=>h pins s σ H v u Q I r (i v σ H Q q)
theorem EO {i:Nat}{x:Str}(hN:X.N.Nodup)(hi:X.N[i]?=some x)(hx:Loc X.env.scope x)(hf:X.fn x=true\/X.env.scope.names.lookup x=some .local):PG X (.Name x pos) (gT fa X.K (.one i)):=
 zj (wg hN hi hx hf) fun v σ H Q ⟨μ,Z,M,d,ρ1,hE,hM,r,e,k⟩=>by
  have e':Z.set i (some d)=ρ1:=Option.some.inj e
  subst e'
  exact k _ (hE.set r)
def HS (fa:Fa)(K:PySem.W.Frag)(l:List Nat):qV:=fun vs σ H Q=>∃μ Z M ds ρ1,bK fa K μ H σ Z/\RelM fa K μ H M/\a9 fa K μ H ds vs/\gG l ds Z=some ρ1/\∀σ1,bK fa K μ H σ1 ρ1->Q σ1 H
inductive lM (X:Cx):List Nat->List Expr->Prop
 |nil:lM X [] []
 |cons {i:Nat}{x:Str}{p:Pos}{l:List Nat}{ns:List Expr} (hi:X.N[i]?=some x) (hx:Loc X.env.scope x) (hf:X.fn x=true\/X.env.scope.names.lookup x=some .local) (r:lM X l ns):lM X (i::l) (.Name x p::ns)
theorem lM.each {l:List Nat}{ns:List Expr}(h:lM X l ns):(assignEach ns X.env).length=l.length/\(assignEach ns X.env).findIdx? (·.1)=none:=by
 induction h with
 |nil=>exact ⟨rfl,rfl⟩
 | cons hi hx hf r ih =>
   rename_i i x p l ns
   have e:assignEach (.Name x p::ns) X.env=(false,assign (.Name x p) X.env)::assignEach ns X.env:=rfl
   rw [e]
   refine ⟨by simp [ih.1],?_⟩
   rw [List.findIdx?_cons]
   simp [ih.2]
theorem Cb (hN:X.N.Nodup){l:List Nat}{ns:List Expr}(h:lM X l ns):vG X ns (HS fa X.K l):=by
 induction h with
 | nil =>
   refine we D7 fun vs σ H Q ⟨μ,Z,M,ds,ρ1,hE,hM,r,e,k⟩=>?_
   cases ds with
   | nil =>
     obtain rfl:vs=[]:=r
     have e':Z=ρ1:=Option.some.inj e
     subst e'
     exact ⟨rfl,k _ hE⟩
   |cons=>cases e
 | cons hi hx hf r ih =>
   refine we (Bj (wg hN hi hx hf) ih (by rfl)) fun vs σ H Q ⟨μ,Z,M,ds,ρ1,hE,hM,r,e,k⟩=>?_
   cases ds with
   |nil=>cases e
   | cons d ds =>
     obtain ⟨v,vr,rfl,r1,r2⟩:=r
     exact ⟨v,vr,rfl,μ,_,M,ds,ρ1,hE.set r1,hM,r2,e,k⟩
theorem ng:∀{l:List Nat}{ds:List D}{Z ρ1:Env},gG l ds Z=some ρ1->ds.length=l.length
 |[],[],_,_,_=>rfl
 |_::_,[],_,_,h=>by cases h
 |[],_::_,_,_,h=>by cases h
 | _ :: l, _ :: ds, _, _, h => by
   have:=ng (l:=l) (ds:=ds) h
   simp [this]
theorem Ip (hc:X.calm=true)(hN:X.N.Nodup){l:List Nat}{ns:List Expr}{k:Nat}(h:lM X l ns):PG X (.Tuple ns k pos) (gT fa X.K (.tup l)):=
 zj (Gf (n:=l.length) hc (Cb (fa:=fa) hN h) h.each.1 h.each.2) fun v σ H Q ⟨μ,Z,M,d,ρ1,hE,hM,r,e,k⟩=>by
  cases d with
  | tup ds =>
    obtain ⟨a,vs,rfl,hq,r⟩:=r
    exact ⟨a,vs,rfl,hq,by rw [r.length];exact ng e,μ,Z,M,ds,ρ1,hE,hM,r,e,k⟩
  |_=>cases e
end
end LD
namespace LD
open PySem PySem.Spec PyProof.Rows L2
section
variable {fa:Fa}{X:Cx}{a b d:Expr}{ga gb gd:Env->Mem->Res D}{pos p:Pos}{es:List Expr}{gs:Env->Mem->Res (List D)}{n:Nat}
theorem Il {tg:Expr}{t:dN}(ha:DE fa X a ga)(hg:PG X tg (gT fa X.K t))(hs:swapsWithSole [tg] a pos.line X.env=pure false)(hw:swappedStores [tg] a X.env=pure none)(h1:(assignEach [tg] X.env).map (·.2)=[assign tg X.env]) :
 DS fa X (.Assign [tg] a pos) (fun Z M=>(ga Z M).bind fun x M=>(dg M (dw t x Z)).bind fun ρ1 M=>.ok (.next ρ1) M):=
 jR (zg ha hg hs hw h1) fun D σ H ⟨μ,Z,M,hE,hM,h⟩=>t1 hE hM h fun x M1 v H1 μ1 x1 hE1 hM1 r1 h1=>by
  obtain ⟨ρ1,M2,e,q⟩:=bp h1
  cases eb:dw t x Z with
  |none=>rw [eb] at e;cases e
  | some ρ2 =>
    rw [eb] at e
    cases e
    exact ⟨μ1,Z,M1,x,ρ1,hE1,hM1,r1,eb,fun σ1 hE2=>q σ1 H1 μ1 x1 hE2 hM1⟩
theorem sr {D':Ends}{μ:Mu}{H:Hp}{σ:L2.St}{Z:Env}{M:Mem}{k:Nat}{ad:Addr}{ws:List V}{ds:List D}(hE:bK fa X.K μ H σ Z)(hM:RelM fa X.K μ H M)(hk:μ.pub k=some ad)(r:a9 fa X.K μ H ds ws)
 (q:∀σ' H' μ',Ext μ H μ' H'->bK fa X.K μ' H' σ' Z->RelM fa X.K μ' H' (M.set k ds)->D'.nx σ' H'):D'.nx σ (upd H ad (.lst ws)):=
 q σ _ μ (Ext.write (vs:=ws) hM hk) (hE.ext (Ext.write (vs:=ws) hM hk)) (hM.write hk r)
theorem Ii (ha:DE fa X a ga)(hb:DE fa X b gb)(hd:DE fa X d gd){p2:Pos}
 (h0:∀v,assign (.Subscript a b p2) X.env v=(do
  let ov <- holding [v] (eval a X.env)
  let iv <- holding [v,ov] (eval b X.env)
  standAt p2
  holding [v,ov,iv] (setItem ov iv v)
  release [v,ov,iv] [])) (hs:swapsWithSole [.Subscript a b p2] d pos.line X.env=pure false) (hw:swappedStores [.Subscript a b p2] d X.env=pure none) (h1:(assignEach [.Subscript a b p2] X.env).map (·.2)=[assign (.Subscript a b p2) X.env]) :
 DS fa X (.Assign [.Subscript a b p2] d pos) (fun Z M=>(gd Z M).bind fun z M=>(ga Z M).bind fun x M=>(gb Z M).bind fun y M=>match x,y with
  | .cell k, .int n => match M[k]? with
    | some ds => match bR ds.length n with
      |some j=>.ok (.next Z) (M.set k (ds.set j z))
      |none=>.bad
    |none=>.bad
  |_,_=>.bad):=
 jR (zg hd (Gg ha hb set_list h0) hs hw h1) fun D' σ H ⟨μ,Z,M,hE,hM,h⟩=>t1 hE hM h fun z M1 v H1 μ1 x1 hE1 hM1 r1 h1=>t2 hE1 hM1 h1 fun x y M2 vx vy H2 μ2 x2 hE2 hM2 rx ry h2=>by
  have key:∀k n,x=.cell k->y=.int n->CJ vx vy v H2 fun H3=>D'.nx σ H3:=fun k n e1 e2=>by
   subst e1 e2
   dsimp only at h2
   cases e:M2[k]? with
   |none=>rw [e] at h2;exact h2.elim
   | some ds =>
     rw [e] at h2
     dsimp only at h2
     cases ej:LD.bR ds.length n with
     |none=>rw [ej] at h2;exact h2.elim
     | some j =>
       rw [ej] at h2
       obtain ⟨ad,rfl,hk⟩:=rx
       obtain ⟨ad',ws,h3,h4,h5⟩:=hM2.at' k ds e
       rw [hk] at h3;cases h3
       have q:∀σ' H' μ',Ext μ H μ' H'->bK fa X.K μ' H' σ' Z->RelM fa X.K μ' H' (M2.set k (ds.set j z))->D'.nx σ' H':=h2
       refine ⟨ad,ws,n,j,rfl,ry,h4,by rw [h5.length];exact ej,sr hE2 hM2 hk (h5.set j (r1.ext x2)) fun σ' H' μ' x' e' m'=>q σ' H' μ' ((x1.trans x2).trans x') e' m'⟩
  cases x with
  | cell k => cases y with
    |int n=>exact key k n rfl rfl
    |_=>exact h2.elim
  |_=>exact h2.elim
theorem Im (ha:DE fa X a ga)(hd:DE fa X d gd){apos cpos:Pos}(hbase:attributeBase a "append" X.env (eval a X.env)=eval a X.env)(hline:(apos.endLine==cpos.line)=true)(hs:starEach [d] X.env=[(false,eval d X.env)])
 (hsw:swapsWith (.Call (.Attribute a "append" apos) [d] [] cpos) none pos.line X.env=pure false) :
 DS fa X (.Expr (.Call (.Attribute a "append" apos) [d] [] cpos) pos) (fun Z M=>(ga Z M).bind fun x M=>(gd Z M).bind fun z M=>match x with
  | .cell k => match M[k]? with
    |some ds=>if ds.length<sz then .ok (.next Z) (M.set k (ds++[z])) else .bad
    |none=>.bad
  |_=>.bad):=
 jR (rj (xh PySem.F.plainAttrs_list PySem.F.slot_list_append PySem.F.type_list_append sQ ha (cN hd fb hs) hbase (by rw [hs];rfl) hline hs (by rfl)) hsw) fun D' σ H ⟨μ,Z,M,hE,hM,h⟩=>by
  obtain ⟨x,M1,e1,h1⟩:=bp h
  obtain ⟨z,M2,e2,h2⟩:=bp h1
  cases x with
  | cell k =>
    dsimp only at h2
    cases e:M2[k]? with
    |none=>rw [e] at h2;exact h2.elim
    | some ds =>
      rw [e] at h2
      dsimp only at h2
      split at h2
      ·next hz=>
       have q:∀σ' H' μ',Ext μ H μ' H'->bK fa X.K μ' H' σ' Z->RelM fa X.K μ' H' (M2.set k (ds++[z]))->D'.nx σ' H':=h2
       refine ⟨μ,Z,M,hE,hM,?_⟩
       rw [e1]
       intro vx H1 μ1 x1 hM1 rx
       obtain ⟨ad,rfl,hk⟩:=rx
       obtain ⟨ds1,ws1,_,hH1,_⟩:=hM1.mu_lt hk
       refine ⟨.inl ⟨rfl,ws1,dq.of hH1⟩,μ1,Z,M1,hE.ext x1,hM1,?_⟩
       rw [e2]
       intro vz H2 μ2 x2 hM2 rz
       obtain ⟨ad',ws,h3,h4,h5⟩:=hM2.at' k ds e
       rw [x2.mu k ad hk] at h3;cases h3
       refine ⟨ad,ws,vz,rfl,rfl,h4,by rw [h5.length,<- d4];exact hz,?_⟩
       exact sr ((hE.ext x1).ext x2) hM2 (x2.mu k ad hk) (h5.append (.one rz)) fun σ' H' μ' x' e' m'=>q σ' H' μ' ((x1.trans x2).trans x') e' m'
      ·exact h2.elim
  |_=>exact h2.elim
theorem Ih (ha:DE fa X a ga):DS fa X (.Return (some a) pos) (fun Z M=>(ga Z M).bind fun x M=>.ok (.ret x) M):=
 jR (Ga ha) fun D' σ H ⟨μ,Z,M,hE,hM,h⟩=>by
  obtain ⟨x,M1,e,q⟩:=bp h
  refine ⟨μ,Z,M,hE,hM,?_⟩
  rw [e];exact q
theorem MC:DS fa X (.Pass pos) (fun Z M=>.ok (.next Z) M):=jR D1 fun D' σ H ⟨μ,Z,M,hE,hM,h⟩=>h σ H μ .refl hE hM
theorem pe.ext {μ μ':Mu}{H H':Hp}{D':Ends}(x:Ext μ H μ' H'){fl:Fl}{M:Mem}(q:pe fa X μ H D' fl M):pe fa X μ' H' D' fl M:=by
 cases fl with
 |next ρ'=>exact fun σ' H'' μ'' y e m=>q σ' H'' μ'' (x.trans y) e m
 |ret d=>exact bJ.ext q x
 |exc x' ρ'=>exact XW.ext q x
theorem GH {r:Res Fl}{μ μ':Mu}{H H':Hp}{D':Ends}(x:Ext μ H μ' H')(h:aq r (pe fa X μ H D')):aq r (pe fa X μ' H' D'):=bb h fun fl M q=>q.ext x
theorem Ij {c:Expr}{gc:Env->Mem->Res Bool}{st sf:List Stmt}{gt gf:Env->Mem->Res Fl}(hc:DT fa X c gc)(ht:iq fa X st gt)(hf:iq fa X sf gf):DS fa X (.If c st sf pos) (fun Z M=>(gc Z M).bind fun k M=>if k then gt Z M else gf Z M):=
 jR (Ji hc ht hf) fun D' σ H ⟨μ,Z,M,hE,hM,h⟩=>yN hE hM h fun k M1 H1 μ1 x1 hE1 hM1 h1=>by
  cases k with
  |true=>exact ⟨μ1,Z,M1,hE1,hM1,GH x1 h1⟩
  |false=>exact ⟨μ1,Z,M1,hE1,hM1,GH x1 h1⟩
theorem EH:iq fa X [] (fun Z M=>.ok (.next Z) M):=wd wc fun D' σ H ⟨μ,Z,M,hE,hM,h⟩=>h σ H μ .refl hE hM
theorem B9 {st:Stmt}{ss:List Stmt}{g:Env->Mem->Res Fl}{g':Env->Mem->Res Fl}(h1:DS fa X st g)(h2:iq fa X ss g'):iq fa X (st::ss) (fun Z M=>(g Z M).bind fun fl M=>match fl with
 |.next Z=>g' Z M
 |fl=>.ok fl M):=
 wd (pJ h1 h2) fun D' σ H ⟨μ,Z,M,hE,hM,h⟩=>by
  obtain ⟨fl,M1,e,q⟩:=bp h
  refine ⟨μ,Z,M,hE,hM,?_⟩
  rw [e]
  cases fl with
  |next ρ1=>exact fun σ1 H1 μ1 x1 hE1 hM1=>⟨μ1,ρ1,M1,hE1,hM1,GH x1 q⟩
  |ret d=>exact q
  |exc x ρ1=>exact q
end
end LD
namespace LD
open PySem PySem.Spec PyProof.Rows L2
def fj (fa:Fa)(K:PySem.W.Frag)(μ0:Mu)(H0:Hp)(w:Walk)(J:It):Prop:=
 ∀(μ:Mu) (H:Hp) (M:Mem) (ds:List D),ExtW μ0 H0 μ H->RelM fa K μ H M->w M=some ds->(∀(i:Nat) (d:D),ds[i]?=some d->J.go i H/\∀x H',J.yld i H x H'->Ext μ H μ H'/\RelM fa K μ H' M/\Rep fa K μ H' d x)/\∀i,ds.length<=i->J.stop i H
def tI (fa:Fa)(K:PySem.W.Frag)(g:Env->Mem->Res Walk):TI:=fun σ H R=>∃μ Z M,bK fa K μ H σ Z/\RelM fa K μ H M/\aq (g Z M) fun w M'=>∀J H' μ',Ext μ H μ' H'->RelM fa K μ' H' M'->fj fa K μ' H' w J->R J H'
abbrev DI (fa:Fa)(X:Cx)(tg iter:Expr)(g:Env->Mem->Res Walk):Prop:=PI X tg iter (tI fa X.K g)
theorem yE {fa:Fa}{K:PySem.W.Frag}{μ0 μ1:Mu}{H0 H1:Hp}{w:Walk}{J:It}(h:fj fa K μ0 H0 w J)(x:ExtW μ0 H0 μ1 H1):fj fa K μ1 H1 w J:=fun μ H M ds y hM e=>h μ H M ds (x.trans y) hM e
section
variable {fa:Fa}{X:Cx}{tg a b d:Expr}{ga gb gd:Env->Mem->Res D}{pos p:Pos}{es:List Expr}{n:Nat}
theorem yF {μ0:Mu}{H0:Hp}{dd:D}{ad:Addr}(h:Rep fa X.K μ0 H0 dd (.ref ad)):fj fa X.K μ0 H0 (fun M=>gD M dd) (IK X.K ad):=fun μ H M ds x hM e=>by
 obtain ⟨ad',vs,ea,s,r⟩:=cf hM (Rep.extW x h) e
 cases ea
 refine ⟨fun i d hd=>?_,fun i hi=>⟨vs,s,by rw [r.length];exact hi⟩⟩
 obtain ⟨v,hv,rv⟩:=r.get hd
 refine ⟨⟨vs,v,s,hv⟩,fun y H' ⟨e,hy⟩=>?_⟩
 subst e
 have:=hy vs s
 rw [hv] at this;cases this
 exact ⟨.refl,hM,rv⟩
theorem AD {μ0:Mu}{H0:Hp}{ds:List D}{ad:Addr}(h:Rep fa X.K μ0 H0 (.tup ds) (.ref ad)):fj fa X.K μ0 H0 (fun _=>some ds) (II X.K ad):=fun μ H M ds' x hM e'=>by
 cases e'
 obtain ⟨ad',vs,e,s,r⟩:=Rep.extW x h
 cases e
 refine ⟨fun i d hd=>?_,fun i hi=>⟨vs,s,by rw [r.length];exact hi⟩⟩
 obtain ⟨v,hv,rv⟩:=r.get hd
 refine ⟨⟨vs,v,s,hv⟩,fun y H' ⟨e,hy⟩=>?_⟩
 subst e
 have:=hy vs s
 rw [hv] at this;cases this
 exact ⟨.refl,hM,rv⟩
theorem AF {μ0:Mu}{H0:Hp}(lo:Int)(n:Nat):fj fa X.K μ0 H0 (fun _=>some ((List.range n).map fun (k:Nat)=>D.int (lo+(k:Int)))) (De lo n):=fun μ H M ds x hM e=>by
 cases e
 refine ⟨fun i d hd=>?_,fun i hi=>(show n<=i by simpa using hi)⟩
 rw [List.getElem?_map] at hd
 by_cases hi:i<n
 ·rw [List.getElem?_range hi] at hd
  have e:D.int (lo+(i:Int))=d:=Option.some.inj hd
  subst e
  refine ⟨hi,fun y H' ⟨e1,e2⟩=>?_⟩
  subst e1 e2
  exact ⟨.refl,hM,rfl⟩
 ·rw [List.getElem?_eq_none (by simpa using hi)] at hd;cases hd
def fS (ga:Env->Mem->Res D):Env->Mem->Res Walk:=fun Z M=>(ga Z M).bind fun x M=>match x with
 |.lst ds=>.ok (fun _=>some ds) M
 |.tup ds=>.ok (fun _=>some ds) M
 |.frz ds=>.ok (fun _=>some ds) M
 |.cell k=>.ok (fun M=>M[k]?) M
 |_=>.bad
theorem Io (ha:DE fa X a ga):DI fa X tg a (fS ga):=fun pins s σ H R I ⟨μ,Z,M,hE,hM,h⟩=>by
 obtain ⟨x,M1,e,q⟩:=bp h
 have lst:(∀μ' H',RelM fa X.K μ' H' M1->∀v,Rep fa X.K μ' H' x v->∃ds,gD M1 x=some ds)->(∀J H' μ',Ext μ H μ' H'->RelM fa X.K μ' H' M1->fj fa X.K μ' H' (fun M=>gD M x) J->R J H')->
  wpAny (model X.prog X.w) X.A (eval a X.env) (fun v s1=>wpAny (model X.prog X.w) X.A (pyIter v) (Dc X pins σ tg R) X.xe s1) X.xe s:=fun hx q=>by
  refine D6 ha pins s σ H R I ⟨μ,Z,M,hE,hM,?_⟩
  rw [e]
  intro v H1 μ1 x1 m1 r1
  obtain ⟨ds,er⟩:=hx μ1 H1 m1 v r1
  obtain ⟨ad,vs,rfl,s1,r⟩:=cf m1 r1 er
  exact ⟨ad,rfl,⟨vs,s1⟩,q _ H1 μ1 x1 m1 (yF r1)⟩
 cases x with
 |lst ds=>exact lst (fun _ _ _ _ _=>⟨ds,rfl⟩) q
 |frz ds=>exact lst (fun _ _ _ _ _=>⟨ds,rfl⟩) q
 | tup ds =>
   refine Gd ha pins s σ H R I ⟨μ,Z,M,hE,hM,?_⟩
   rw [e]
   intro v H1 μ1 x1 m1 r1
   obtain ⟨ad,vs,rfl,s1,r⟩:=id r1
   exact ⟨ad,rfl,⟨vs,s1⟩,q _ H1 μ1 x1 m1 (AD r1)⟩
 |cell k=>exact lst (fun μ' H' m' v ⟨ad,_,hk⟩=>let ⟨ds,_,e,_⟩:=m'.mu_lt hk;⟨ds,e⟩) q
 |_=>exact q.elim
def d7 (ga:Env->Mem->Res D):Env->Mem->Res Walk:=fun Z M=>(ga Z M).bind fun x M=>match x with
 |.int n=>if -(2^62)<=n/\n<2^62 then .ok (fun _=>some ((List.range n.toNat).map fun (k:Nat)=>D.int (k:Int))) M else .bad
 |_=>.bad
theorem EM (ha:DE fa X a ga)(hg:Gl X "range")(hm:X.mg "range"=none)(hs:starEach [a] X.env=[(false,eval a X.env)]):DI fa X tg (.Call (.Name "range" p) [a] [] pos) (d7 ga):=fun pins s σ H R I ⟨μ,Z,M,hE,hM,h⟩=>by
 refine zi hg hm (cN ha fb hs) hs pins s σ H R I ?_
 refine t1 hE hM h fun x M1 v H1 μ1 x1 hE1 hM1 r1 h1=>?_
 cases x with
 | int n =>
   dsimp only at h1
   split at h1
   ·next c=>
    obtain rfl:v=.int n:=r1
    refine ⟨n,rfl,c.1,c.2,h1 _ H1 μ1 x1 hM1 ?_⟩
    have:=AF (fa:=fa) (X:=X) (μ0:=μ1) (H0:=H1) 0 n.toNat
    simpa using this
   ·exact h1.elim
 |_=>exact h1.elim
def iQ (t:dN)(gb:Env->Mem->Res Fl):Fl->D->Mem->Res Fl:=fun fl d M=>match fl with
 |.next Z=>(dg M (dw t d Z)).bind fun ρ1 M=>gb ρ1 M
 |fl=>.ok fl M
def Fl.out:Fl->Bool
 |.next _=>false
 |_=>true
theorem mO {t:dN}{gb:Env->Mem->Res Fl}{fl:Fl}{w:Walk}{P:Fl->Mem->Prop}(ho:fl.out=true):∀(n i:Nat) (M:Mem),aq (fR (iQ t gb) w n i fl M) P->P fl M
 |0,_,_,h=>h.elim
 | n + 1, i, M, h => by
   unfold fR at h
   cases e:w M with
   |none=>rw [e] at h;exact h.elim
   | some ds =>
     rw [e] at h
     dsimp only at h
     cases e2:ds[i]? with
     |none=>rw [e2] at h;exact h
     | some d' =>
       rw [e2] at h
       cases fl with
       |next Z=>cases ho
       |ret d=>exact mO ho n (i+1) M h
       |exc x Z=>exact mO ho n (i+1) M h
theorem Ik {t:dN}{body:List Stmt}{gw:Env->Mem->Res Walk}{gb:Env->Mem->Res Fl}(hp:PassesOwn (model X.prog X.w) X.A X.env X.xe)(hc:X.calm=true)(hi:DI fa X tg a gw)(hg:PG X tg (gT fa X.K t))(hb:iq fa X body gb)
 (hs:∀x,foldedSetIterable a X.env x=pure x):DS fa X (.For tg a body [] pos) (fun Z M=>(gw Z M).bind fun w M=>d3 (iQ t gb) w (.next Z) M):=
 jR (Gb hp hc hi hg hb hs) fun D' σ H ⟨μ,Z,M,hE,hM,h⟩=>by
  obtain ⟨w,M1,e,q⟩:=bp h
  refine ⟨μ,Z,M,hE,hM,?_⟩
  rw [e]
  intro J H1 μ1 x1 hM1 wk
  have hE1:=hE.ext x1
  refine ⟨fun i m σ' H'=>∃μ' ρ' M',Ext μ1 H1 μ' H'/\bK fa X.K μ' H' σ' ρ'/\RelM fa X.K μ' H' M'/\aq (fR (iQ t gb) w m i (.next ρ') M') (pe fa X μ H D'),
   ⟨_,μ1,Z,M1,.refl,hE1,hM1,q⟩,?_⟩
  rintro i m σ2 H2 ⟨μ2,ρ2,M2,x2,hE2,hM2,q2⟩
  cases m with
  |zero=>exact q2.elim
  | succ m =>
    unfold fR at q2
    cases e2:w M2 with
    |none=>rw [e2] at q2;exact q2.elim
    | some ds =>
      rw [e2] at q2
      dsimp only at q2
      obtain ⟨go,stop⟩:=wk μ2 H2 M2 ds x2.toExtW hM2 e2
      cases ed:ds[i]? with
      | none =>
        rw [ed] at q2
        exact .inl ⟨stop i (List.getElem?_eq_none_iff.mp ed),q2 σ2 H2 μ2 (x1.trans x2) hE2 hM2⟩
      | some d =>
        rw [ed] at q2
        obtain ⟨g1,g2⟩:=go i d ed
        refine .inr ⟨g1,fun σ' H'=>∃μ' ρ' M',Ext μ1 H1 μ' H'/\bK fa X.K μ' H' σ' ρ'/\RelM fa X.K μ' H' M'/\aq (fR (iQ t gb) w m (i+1) (.next ρ') M') (pe fa X μ H D'),fun σ' H' z=>⟨m,by omega,z⟩,fun y H3 hy=>?_⟩
        obtain ⟨x3,hM3,r3⟩:=g2 y H3 hy
        have q2:aq (((dg M2 (dw t d ρ2)).bind fun ρ1 M=>gb ρ1 M).bind (fR (iQ t gb) w m (i+1))) (pe fa X μ H D'):=q2
        obtain ⟨fl,M4,e4,q4⟩:=bp q2
        obtain ⟨ρ4,M5,e5,e6⟩:=fV e4
        cases eb:dw t d ρ2 with
        |none=>rw [eb] at e5;cases e5
        | some ρ5 =>
          rw [eb] at e5
          cases e5
          refine ⟨μ2,ρ2,_,d,ρ4,hE2.ext x3,hM3,r3,eb,fun σ5 hE5=>⟨μ2,ρ4,_,hE5,hM3,?_⟩⟩
          rw [e6]
          cases fl with
          |next ρ6=>exact fun σ6 H6 μ6 x6 hE6 hM6=>⟨μ6,ρ6,M4,(x2.trans x3).trans x6,hE6,hM6,q4⟩
          |ret d6=>exact (mO rfl m (i+1) M4 q4).ext ((x1.trans x2).trans x3)
          |exc x6 ρ6=>exact (mO rfl m (i+1) M4 q4).ext ((x1.trans x2).trans x3)
end
end LD
namespace LD
open PySem PySem.Spec PyProof.Rows L2
abbrev FF:Value->Shared->Prop:=fun _ _=>False
section
variable {prog:Program}{w:World}{A:Around}{s:Shared}
theorem Ag {elt:Expr}{gens:List Comprehension}{scope:Scope}{pos p:Pos}{k:Nat}{it acc:Value}{env:PySem.Env}{R:Result->Shared->Prop}{target:Expr}{body:Sem Unit}
 (heq:compTurn (.ListComp elt gens scope pos) k it acc env=(standAt p >>= fun _=>pyNext it >>= fun r=>match r with
  |none=>pure (.done .next)
  |some v=>letOwnedTupleGo target it v >>= fun _=>assign target env v >>= fun _=>body >>= fun _=>again (.compLoop (.ListComp elt gens scope pos) k it acc env)))
 (I:Nat->Shared->Prop)
 (turn:∀n s,I n s->wpAny (model prog w) A (pyNext it) (fun r s₁=>match r with
  |none=>R (.ok .next) s₁
  |some v=>wpAny (model prog w) A (letOwnedTupleGo target it v) (fun _ s₂=>wpAny (model prog w) A (assign target env v) (fun _ s₃=>wpAny (model prog w) A body (fun _ s₄=>∃m,m<n/\I m s₄) FF s₃) FF s₂) FF s₁) FF s)
 (n:Nat) (h:I n s):codeAny (model prog w) A (.compLoop (.ListComp elt gens scope pos) k it acc env) R s:=by
 refine codeAny_loop rfl I (fun n s hI=>?_) n h
 show wpAny _ _ ((compTurn (.ListComp elt gens scope pos) k it acc env).onRaise (fun x=>do noteFrame x env;theTreesLotGoes x)) _ _ s
 refine wpAny_noted ?_
 rw [heq]
 refine wpAny_noRaise ?_
 refine tqa (wpAny_standAt (tqa (bx (turn n s hI) fun r s₁ h₁=>?_)))
 cases r with
 |none=>exact tqb h₁
 | some v =>
   refine tqa (bx h₁ fun _ s₂ h₂=>?_)
   exact tqa (bx h₂ fun _ s₃ h₃=>tqa (bx h₃ fun _ s₄ h₄=>tqb ⟨rfl,h₄⟩))
theorem um (elt target iter:Expr)(gs:List Comprehension)(scope:Scope)(pos:Pos)(it acc:Value)(env:PySem.Env) :
 compTurn (.ListComp elt [⟨target,iter,[],0⟩] scope pos) 0 it acc env=(standAt iter.pos >>= fun _=>pyNext it >>= fun r=>match r with
  |none=>pure (.done .next)
  |some v=>letOwnedTupleGo target it v >>= fun _=>assign target env v >>= fun _=>(eval elt env >>= fun x=>call (.builtin "list.append") [acc,x] >>= fun _=>pure ()) >>= fun _=>again (.compLoop (.ListComp elt [⟨target,iter,[],0⟩] scope pos) 0 it acc env)):=by rfl
theorem turn_if (elt target iter c:Expr)(scope:Scope)(pos:Pos)(it acc:Value)(env:PySem.Env) :
 compTurn (.ListComp elt [⟨target,iter,[c],0⟩] scope pos) 0 it acc env=(standAt iter.pos >>= fun _=>pyNext it >>= fun r=>match r with
  |none=>pure (.done .next)
  |some v=>letOwnedTupleGo target it v >>= fun _=>assign target env v >>= fun _=>(isTrue c env (eval c env) >>= fun ok=>if ok=true then (eval elt env >>= fun x=>call (.builtin "list.append") [acc,x] >>= fun _=>pure ()) else pure ()) >>= fun _=>again (.compLoop (.ListComp elt [⟨target,iter,[c],0⟩] scope pos) 0 it acc env)):=by
 rw [compTurn_list]
 refine congrArg _ (funext fun _=>congrArg _ (funext fun r=>?_))
 cases r with
 |none=>rfl
 | some v =>
   simp only [List.forIn_cons,List.forIn_nil,if_true,bind_assoc,pure_bind]
   refine congrArg _ (funext fun _=>congrArg _ (funext fun _=>congrArg _ (funext fun ok=>?_)))
   cases ok<;>simp
theorem AI (elt target iter t2 i2:Expr)(scope:Scope)(pos:Pos)(it acc:Value)(env:PySem.Env) :
 compTurn (.ListComp elt [⟨target,iter,[],0⟩,⟨t2,i2,[],0⟩] scope pos) 0 it acc env=(standAt iter.pos >>= fun _=>pyNext it >>= fun r=>match r with
  |none=>pure (.done .next)
  |some v=>letOwnedTupleGo target it v >>= fun _=>assign target env v >>= fun _=>(eval i2 env >>= fun x=>standAt i2.pos >>= fun _=>foldedSetIterable i2 env x >>= fun x=>holding [x] (pyIter x) >>= fun j=>runOwn (.compStart (.ListComp elt [⟨target,iter,[],0⟩,⟨t2,i2,[],0⟩] scope pos) 1 j acc env) env >>= fun _=>pure ()) >>= fun _=>again (.compLoop (.ListComp elt [⟨target,iter,[],0⟩,⟨t2,i2,[],0⟩] scope pos) 0 it acc env)):=by
 unfold compTurn
 simp only [List.getElem?_cons_zero,bne_self_eq_false,Bool.false_eq_true,if_false]
 refine bind_congr fun _=>bind_congr fun r=>?_
 cases r with
 |none=>rfl
 |some v=>simp
theorem AJ (elt target iter t2 i2:Expr)(scope:Scope)(pos:Pos)(it acc:Value)(env:PySem.Env) :
 compTurn (.ListComp elt [⟨target,iter,[],0⟩,⟨t2,i2,[],0⟩] scope pos) 1 it acc env=(standAt i2.pos >>= fun _=>pyNext it >>= fun r=>match r with
  |none=>pure (.done .next)
  |some v=>letOwnedTupleGo t2 it v >>= fun _=>assign t2 env v >>= fun _=>(eval elt env >>= fun x=>call (.builtin "list.append") [acc,x] >>= fun _=>pure ()) >>= fun _=>again (.compLoop (.ListComp elt [⟨target,iter,[],0⟩,⟨t2,i2,[],0⟩] scope pos) 1 it acc env)):=by
 rfl
theorem mT (env:PySem.Env):∀(ns:List (Str×NameKind)) (cs:List (Str×Addr)),(∀y∈ns,y.2=.free->∃c,env.cells.lookup y.1=some c)->(∀x c,cs.lookup x=some c->env.cells.lookup x=some c)->
 ∃cl,(forIn ns cs fun (y:Str×NameKind) (r:List (Str×Addr))=>if (y.2==NameKind.free)=true then cellOf env y.1 >>= fun a=>pure (ForInStep.yield ((y.1,a)::r)) else pure (ForInStep.yield r):Sem _)=pure cl/\
  (∀x c,cl.lookup x=some c->env.cells.lookup x=some c)/\(∀x c,cs.lookup x=some c->∃c',cl.lookup x=some c')/\∀y∈ns,y.2=.free->∃c,cl.lookup y.1=some c
 |[],cs,_,h2=>⟨cs,by simp,h2,fun x c e=>⟨c,e⟩,fun y hy=>nomatch hy⟩
 | (n, k) :: ns, cs, h1, h2 => by
   by_cases hk:k=.free
   ·subst hk
    obtain ⟨a,ha⟩:=h1 (n,.free) List.mem_cons_self rfl
    have lk:∀x c,((n,a)::cs).lookup x=some c->env.cells.lookup x=some c:=fun x c e=>by
     rw [List.lookup_cons] at e
     split at e
     ·next q=>cases e;rw [eq_of_beq q];exact ha
     ·exact h2 x c e
    obtain ⟨cl,e,p1,p2,p3⟩:=mT env ns ((n,a)::cs) (fun y hy=>h1 y (List.mem_cons_of_mem _ hy)) lk
    refine ⟨cl,?_,p1,fun x c q=>?_,fun y hy hf=>?_⟩
    ·rw [List.forIn_cons]
     have ec:cellOf env n=pure a:=by unfold cellOf;rw [ha]
     simp only [beq_self_eq_true,if_true,ec]
     exact e
    ·by_cases hx:x=n
     ·exact p2 x a (by rw [List.lookup_cons,hx];simp)
     ·exact p2 x c (by rw [List.lookup_cons,beq_eq_false_iff_ne.mpr hx];exact q)
    ·rcases List.mem_cons.mp hy with z|z
     ·subst z;exact p2 n a (by simp [List.lookup_cons])
     ·exact p3 y z hf
   ·obtain ⟨cl,e,p1,p2,p3⟩:=mT env ns cs (fun y hy=>h1 y (List.mem_cons_of_mem _ hy)) h2
    refine ⟨cl,?_,p1,p2,fun y hy hf=>?_⟩
    ·rw [List.forIn_cons]
     have eb:(k==NameKind.free)=false:=by simpa using hk
     simp only [eb,Bool.false_eq_true,if_false]
     exact e
    ·rcases List.mem_cons.mp hy with z|z
     ·subst z;exact absurd hf hk
     ·exact p3 y z hf
theorem yo {scope:Scope}{env:PySem.Env}(h:∀y∈scope.names,y.2=.free->∃c,env.cells.lookup y.1=some c) :
 ∃cl,closureFor scope env=pure cl/\(∀x c,cl.lookup x=some c->env.cells.lookup x=some c)/\∀y∈scope.names,y.2=.free->∃c,cl.lookup y.1=some c:=by
 obtain ⟨cl,e,p1,_,p3⟩:=mT env scope.names [] h (fun x c q=>nomatch q)
 exact ⟨cl,by unfold closureFor;simp only [bind_pure];exact e,p1,p3⟩
end
end LD
namespace LD
open PySem PySem.Spec PyProof.Rows L2
def cg (X:Cx)(own bn:List Str)(scope:Scope)(cl:List (Str×Addr))(C:Addr)(fp:List Addr)(s:Shared)(H:Hp):Cx:=
 {X with N:=own++bn,s₀:=s,H₀:=H,env:=compEnvC scope cl C X.env,outer:=X.stack,ex:=fp,fn:=fun _=>false,pn:=[],xe:=FF}
theorem i6 {env:PySem.Env}:∀{names:List (Str×NameKind)}{x:Str}{k:NameKind},
 (names.map fun (n,k)=>if (k==NameKind.free&&env.scope.kind==.function&&env.kindOf n==some .cell) then (n,NameKind.cell) else (n,k)).lookup x=some k->
 ∃k0,(x,k0)∈names/\names.lookup x=some k0/\(k=k0\/(k0=.free/\k=.cell))
 |[],_,_,h=>by cases h
 | (n, k0) :: r, x, k, h => by
   have ih:=@i6 env r x k
   have h:List.lookup x ((if (k0==NameKind.free&&env.scope.kind==.function&&env.kindOf n==some .cell)=true then (n,NameKind.cell) else (n,k0))::_)=some k:=h
   cases hx:x==n with
   | true =>
     have e:=eq_of_beq hx
     subst e
     refine ⟨k0,List.mem_cons_self,by simp [List.lookup_cons],?_⟩
     split at h
     ·next c=>
      simp [List.lookup_cons] at h
      simp at c
      exact .inr ⟨c.1.1,h.symm⟩
     ·simp [List.lookup_cons] at h
      exact .inl h.symm
   | false =>
     have h':List.lookup x (r.map fun (n,k)=>if (k==NameKind.free&&env.scope.kind==.function&&env.kindOf n==some .cell) then (n,NameKind.cell) else (n,k))=some k:=by
      split at h<;>simpa [List.lookup_cons,hx] using h
     obtain ⟨k1,h1,h2,h3⟩:=ih h'
     exact ⟨k1,List.mem_cons_of_mem _ h1,by simp [List.lookup_cons,hx];exact h2,h3⟩
theorem qv {α β:Type}{R:α->β->Prop}:∀{l:List α}{r:List β}{i:Nat}{x:α},Paired R l r->l[i]?=some x->∃y,r[i]?=some y/\R x y
 |_,_,_,_,.nil,e=>by simp at e
 |_,_,0,_,.cons p _,e=>by simp at e;subst e;exact ⟨_,rfl,p⟩
 | _, _, i + 1, x, .cons _ t, e => by
   obtain ⟨y,h1,h2⟩:=qv (i:=i) (x:=x) t (by simpa using e)
   exact ⟨y,by simpa using h1,h2⟩
structure fN (X:Cx) (own bn:List Str) (scope:Scope):Prop where
 kind:scope.kind=.function
 nocell:∀y∈scope.names,y.2≠.cell
 loc:∀y∈scope.names,y.2=.local->scope.names.lookup y.1=some .local
 free:∀y∈scope.names,y.2=.free->X.env.kindOf y.1=some .cell\/X.env.kindOf y.1=some .free
 dis:Paired (fun b x=>(b=x/\scope.names.lookup x≠some .local)\/scope.names.lookup b=none) bn X.N
section
variable {X:Cx}{pins:List (Addr×Obj)}{σ:L2.St}{H:Hp}{s:Shared}{fp:List Addr}{scope:Scope}{cl:List (Str×Addr)}{own bn:List Str}
structure Cl (X:Cx) (scope:Scope) (cl:List (Str×Addr)):Prop where
 sub:∀x c,cl.lookup x=some c->X.env.cells.lookup x=some c
 has:∀y∈scope.names,y.2=.free->∃c,cl.lookup y.1=some c
theorem EX (I:Inv X pins σ H s)(S:fN X own bn scope)(hcl:Cl X scope cl)(hfp:∀b∈fp,ie X pins H b)(hfo:∀b∈fp,∃o,s.heap.get? b=some o) :
 (cg X own bn scope cl s.heap.objs.size fp s H).Ok where
 mod:=I.ok.mod
 kind:=S.kind
 glob:=I.ok.glob
 blt:=I.ok.blt
 above:=tqg _
 inj:=fun x y c h1 h2=>I.ok.inj x y c (hcl.sub x c h1) (hcl.sub y c h2)
 has:=fun x h=>by
  have key:∀k,(relabel scope X.env).names.lookup x=some k->(k=.cell\/k=.free)->∃c,cl.lookup x=some c:=fun k hk hh=>by
   obtain ⟨k0,h1,h2,h3⟩:=i6 hk
   have hf:k0=.free:=by
    rcases h3 with e|⟨e,_⟩
    ·rcases hh with z|z
     ·exact absurd (e.symm.trans z) (S.nocell _ h1)
     ·exact e.symm.trans z
    ·exact e
   exact hcl.has _ h1 hf
  rcases h with h|h
  ·exact key _ h (.inl rfl)
  ·exact key _ h (.inr rfl)
 cab:=fun x c h=>nomatch h
 hd:=I.ok.hd
 frames:=I.ok.frames
 stk:=.inl rfl
 exf:=fun b hb=>⟨fun e=>by
  obtain ⟨o,ho⟩:=hfo b hb
  exact absurd (tqd ho) (by rw [e];exact tqn _),fun x c e=>(hfp b hb).2.2.2.2.1 x c (hcl.sub x c e)⟩
 bs:=fun b o e=>I.bs b o e
 bsz:=tqh I.ok.bsz I.sz
 noex:=fun b o e hb=>by
  rcases (hfp b hb).2.2.2.1 with z|z
  ·exact I.ok.noex b o e z
  ·exact absurd (tqi (tqd e) (tqh I.ok.bsz z)) (tqn _)
 exfs:=fun b hb hx=>by
  rcases List.mem_cons.mp (I.stkSub b hx) with e|e
  ·exact (hfp b hb).2.1 e
  ·exact (hfp b hb).2.2.1 e
 funs:=I.stack
 frf:=fun b hb=>I.stkFree b hb
theorem Cf (I:Inv X pins σ H s)(S:fN X own bn scope)(hcl:Cl X scope cl)(hfp:∀b∈fp,ie X pins H b)(hfo:∀b∈fp,∃o,s.heap.get? b=some o){h':Heap}{t':Nat}{m:Str->Option Value}
 (hn:h'.Ns s.heap.objs.size m) (hk:∀b o,s.heap.get? b=some o->h'.get? b=some o) :
 Inv (cg X own bn scope cl s.heap.objs.size fp s H) [] (List.replicate own.length none++σ) H {s with heap:=h',toks:=t'} where
 ok:=EX I S hcl hfp hfo
 os:=rfl
 bare:=I.bare
 base:=Un.kept hk
 loc:=by
  refine ⟨m,hn,fun i x v e1 e2 hv=>?_⟩
  have e1:(own++bn)[i]?=some x:=e1
  have hi:own.length<=i:=by
   by_cases q:i<own.length
   ·rw [List.getElem?_append_left (by simpa using q),List.getElem?_replicate] at e2
    simp [q] at e2
   ·omega
  rw [List.getElem?_append_right hi] at e1
  rw [List.getElem?_append_right (by simpa using hi)] at e2
  simp only [List.length_replicate] at e2
  have hx:X.N[i-own.length]?=some x/\scope.names.lookup x≠some .local:=by
   rcases qv S.dis e1 with ⟨y,h1,⟨h2,h3⟩|h2⟩
   ·subst h2;exact ⟨h1,h3⟩
   ·exfalso
    have no:∀k,(relabel scope X.env).names.lookup x≠some k:=fun k hk=>by
     obtain ⟨k0,_,h3,_⟩:=i6 hk
     rw [h2] at h3;cases h3
    rcases hv with z|z|z
    ·exact no _ z
    ·exact no _ z
    ·exact no _ z
  have key:∀k,(relabel scope X.env).names.lookup x=some k->(k=.local\/k=.cell\/k=.free)->∃c,(k=.cell\/k=.free)/\cl.lookup x=some c/\(X.env.kindOf x=some .cell\/X.env.kindOf x=some .free):=fun k hk2 hh=>by
   obtain ⟨k0,h1,h2,h3⟩:=i6 hk2
   have nl:k0≠.local:=fun e=>hx.2 (by rw [h2,e])
   have hf:k0=.free:=by
    rcases h3 with e|⟨e,_⟩
    ·rcases hh with z|z|z
     ·exact absurd (e.symm.trans z) nl
     ·exact absurd (e.symm.trans z) (S.nocell _ h1)
     ·exact e.symm.trans z
    ·exact e
   obtain ⟨c,hc⟩:=hcl.has _ h1 hf
   refine ⟨c,?_,hc,S.free _ h1 hf⟩
   rcases hh with z|z|z
   ·rcases h3 with e|⟨_,e⟩
    ·rw [hf] at e;rw [e] at z;cases z
    ·rw [e] at z;cases z
   ·exact .inl z
   ·exact .inr z
  have fin:∀k,(relabel scope X.env).names.lookup x=some k->(k=.local\/k=.cell\/k=.free)->∃u,RelV v u/\Look (compEnvC scope cl s.heap.objs.size X.env) h' m x u:=fun k hk2 hh=>by
   obtain ⟨c,h1,h2,h3⟩:=key k hk2 hh
   obtain ⟨m0,_,hl⟩:=I.loc
   obtain ⟨u,r,l⟩:=hl _ x v hx.1 e2 (.inr h3)
   refine ⟨u,r,.inr ⟨?_,c,h2,?_⟩⟩
   ·rcases h1 with z|z
    ·subst z;exact .inl hk2
    ·subst z;exact .inr hk2
   ·rcases l with ⟨z,_⟩|⟨_,c',hc',hcell⟩
    ·rcases h3 with q|q
     ·rw [z] at q;cases q
     ·rw [z] at q;cases q
    ·rw [hcl.sub x c h2] at hc';cases hc'
     obtain ⟨o,ho,hd⟩:=hcell
     exact ⟨o,hk _ _ ho,hd⟩
  rcases hv with z|z|z
  ·exact fin _ z (.inl rfl)
  ·exact fin _ z (.inr (.inl rfl))
  ·exact fin _ z (.inr (.inr rfl))
 cell:=fun x c e=>by
  obtain ⟨v,o,ho,hd⟩:=I.cell x c (hcl.sub x c e)
  exact ⟨v,o,hk _ _ ho,hd⟩
 free:=I.hok.fresh (tqg _)
 freeC:=fun x c e=>I.freeC x c (hcl.sub x c e)
 pin:=fun p hp=>nomatch hp
 hok:=I.hok.kept hk
 len:=by
  show (List.replicate own.length none++σ).length=(own++bn).length
  have:=Paired.length S.dis
  simp [I.len,this]
theorem comp_back (I:Inv X pins σ H s)(hfp:∀b∈fp,ie X pins H b){pins':List (Addr×Obj)}{σ':L2.St}{H':Hp}{s':Shared}{C:Addr}(I':Inv (cg X own bn scope cl C fp s H) pins' σ' H' s'):Inv X pins σ H' s':=
 I.call' (ch:=fp) I'.os I'.base I'.hok I'.bare fun b hb=>⟨(hfp b hb).2.2.2.1,(hfp b hb).2.1,(hfp b hb).2.2.2.2.1,(hfp b hb).2.2.2.2.2⟩
theorem Ah (I:Inv X pins σ H s){σ':L2.St}{H':Hp}{s':Shared}(hf:H' s.heap.objs.size=none)(I':Inv X pins σ' H' s'){h'':Heap}(hs:Heap.SameBut s.heap.objs.size s'.heap h''):Inv X pins σ' H' {s' with heap:=h''}:=
 I'.turned (t':=s'.toks) (fun b o hb e=>(hs.2 b hb).trans e) hf (Nat.ne_of_gt I.lt) (.inr I.sz) (fun x c e z=>by
  obtain ⟨v,q⟩:=I.cell x c e
  exact absurd q.lt (by rw [z];exact tqn _)) fun p hp z=>absurd (tqd (I.pin p hp).1) (by rw [z];exact tqn _)
end
end LD
namespace LD
open PySem PySem.Spec PyProof.Rows L2
structure gW (a:Addr) (μ:Mu) (H:Hp) (μ':Mu) (H':Hp):Prop extends ExtW μ H μ' H' where
 pr:μ'.priv=μ.priv
 pk:∀b∈μ.priv,b≠a->H' b=H b
theorem gW.refl {a:Addr}{μ:Mu}{H:Hp}:gW a μ H μ H:=⟨.refl,rfl,fun _ _ _=>rfl⟩
theorem gW.trans {a:Addr}{μ μ1 μ2:Mu}{H H1 H2:Hp}(x:gW a μ H μ1 H1)(y:gW a μ1 H1 μ2 H2):gW a μ H μ2 H2:=
 ⟨x.toExtW.trans y.toExtW,y.pr.trans x.pr,fun b hb n=>(y.pk b (by rw [x.pr];exact hb) n).trans (x.pk b hb n)⟩
theorem Ext.toD {a:Addr}{μ μ':Mu}{H H':Hp}(x:Ext μ H μ' H'):gW a μ H μ' H':=⟨x.toExtW,x.pr,fun b hb _=>x.pk b hb⟩
def slots:dN->List Nat
 |.one i=>[i]
 |.tup l=>l
def Clear (W:List Nat)(Z:Env):Prop:=∀i∈W,∀d,Z[i]?≠some (some d)
section
variable {fa:Fa}{K:PySem.W.Frag}{μ μ':Mu}{H H':Hp}{σ:L2.St}{Z ρ1:Env}{M:Mem}{a:Addr}
theorem bK.weak (h:bK fa K μ H σ ρ1)(hl:ρ1.length=Z.length)(w:∀(i:Nat) d,Z[i]?=some (some d)->ρ1[i]?=some (some d)):bK fa K μ H σ Z:=
 ⟨h.len.trans hl,fun i d e=>h.at' i d (w i d e)⟩
theorem qk:∀{l:List Nat}{ds:List D}{Z ρ1:Env},gG l ds Z=some ρ1->ρ1.length=Z.length/\∀i,i∉l->ρ1[i]?=Z[i]?
 |[],[],Z,ρ1,h=>by cases h;exact ⟨rfl,fun _ _=>rfl⟩
 |_::_,[],_,_,h=>by cases h
 |[],_::_,_,_,h=>by cases h
 | j :: l, d :: ds, Z, ρ1, h => by
   obtain ⟨h1,h2⟩:=qk (l:=l) (ds:=ds) h
   refine ⟨by simpa using h1,fun i hi=>?_⟩
   rw [h2 i (fun z=>hi (List.mem_cons_of_mem _ z)),List.getElem?_set_ne (fun z=>hi (by rw [z];exact List.mem_cons_self))]
theorem tf {t:dN}{d:D}(h:dw t d Z=some ρ1):ρ1.length=Z.length/\∀i,i∉slots t->ρ1[i]?=Z[i]?:=by
 cases t with
 | one j =>
   have h:some (Z.set j (some d))=some ρ1:=h
   cases h
   exact ⟨by simp,fun i hi=>List.getElem?_set_ne (fun z=>hi (by rw [z];exact List.mem_cons_self))⟩
 | tup l =>
   cases d with
   |tup ds=>exact qk h
   |_=>cases h
theorem bK.unbind {t:dN}{d:D}(h:dw t d Z=some ρ1)(c:Clear (slots t) Z)(r:bK fa K μ H σ ρ1):bK fa K μ H σ Z:=by
 obtain ⟨h1,h2⟩:=tf h
 refine r.weak h1 fun i d e=>?_
 by_cases hi:i∈slots t
 ·exact absurd e (c i hi d)
 ·rw [h2 i hi];exact e
theorem RelM.writeP (h:RelM fa K μ H M){ws vs:List V}(e:a∈μ.priv)(hH:H a=some (.lst vs)):RelM fa K μ (upd H a (.lst ws)) M:=by
 have x:ExtW μ H μ (upd H a (.lst ws)):=ExtW.write hH (.inr e)
 refine ⟨fun k ds q=>?_,h.out,h.inj,fun b hb=>⟨?_,(h.pv b hb).2⟩⟩
 ·obtain ⟨b,us,h1,h2,h3⟩:=h.at' k ds q
  have nb:b≠a:=fun z=>(h.pv a e).2 k (by rw [h1,z])
  exact ⟨b,us,h1,by rw [aX nb];exact h2,h3.extW x⟩
 ·by_cases hb':b=a
  ·subst hb';exact ⟨ws,cn⟩
  ·obtain ⟨us,q⟩:=(h.pv b hb).1
   exact ⟨us,by rw [aX hb'];exact q⟩
theorem gW.writeP {ws vs:List V}(e:a∈μ.priv)(hH:H a=some (.lst vs)):gW a μ H μ (upd H a (.lst ws)):=
 ⟨ExtW.write hH (.inr e),rfl,fun b _ n=>by rw [aX n]⟩
end
def WB (fa:Fa)(K:PySem.W.Frag)(a:Addr)(μ:Mu)(H:Hp)(Z:Env)(Q:L2.St->Hp->Prop)(acc:List D)(M':Mem):Prop:=
 ∀σ' H' μ' vs',gW a μ H μ' H'->bK fa K μ' H' σ' Z->RelM fa K μ' H' M'->H' a=some (.lst vs')->a9 fa K μ' H' acc vs'->Q σ' H'
theorem WB.ext {fa:Fa}{K:PySem.W.Frag}{a:Addr}{μ μ1:Mu}{H H1:Hp}{Z:Env}{Q:L2.St->Hp->Prop}{acc:List D}{M':Mem}(h:WB fa K a μ H Z Q acc M')(x:gW a μ H μ1 H1):WB fa K a μ1 H1 Z Q acc M':=
 fun σ' H' μ' vs' y e m h1 h2=>h σ' H' μ' vs' (x.trans y) e m h1 h2
def DB (fa:Fa)(X:Cx)(a:Addr)(W:List Nat)(body:Sem Unit)(g:Env->List D->Mem->Res (List D)):Prop:=
 ∀(pins:List (Addr×Obj)) (s:Shared) (σ:L2.St) (H:Hp) (Q:L2.St->Hp->Prop) (μ:Mu) (Z:Env) (M:Mem) (acc:List D) (vs:List V),Inv X pins σ H s->bK fa X.K μ H σ Z->RelM fa X.K μ H M->Clear W Z->a∈μ.priv->H a=some (.lst vs)->a9 fa X.K μ H acc vs->
  aq (g Z acc M) (WB fa X.K a μ H Z Q)->wpAny (model X.prog X.w) X.A body (fun _ s'=>∃σ' H',Inv X pins σ' H' s'/\Q σ' H') X.xe s
def cw (ge:Env->Mem->Res D):Env->List D->Mem->Res (List D):=fun Z acc M=>(ge Z M).bind fun x M=>if acc.length<sz then .ok (acc++[x]) M else .bad
def oX (gc:Env->Mem->Res Bool)(g:Env->List D->Mem->Res (List D)):Env->List D->Mem->Res (List D):=fun Z acc M=>(gc Z M).bind fun k M=>if k then g Z acc M else .ok acc M
def d5 (t:dN)(g:Env->List D->Mem->Res (List D))(Z:Env):List D->D->Mem->Res (List D):=fun acc d M=>(dg M (dw t d Z)).bind fun ρ1 M=>g ρ1 acc M
def rT (t:dN)(gw:Env->Mem->Res Walk)(g:Env->List D->Mem->Res (List D)):Env->List D->Mem->Res (List D):=fun Z acc M=>(gw Z M).bind fun w M=>d3 (d5 t g Z) w acc M
section
variable {fa:Fa}{X:Cx}{a:Addr}
theorem nX {elt:Expr}{ge:Env->Mem->Res D}(he:DE fa X elt ge):DB fa X a [] (eval elt X.env >>= fun x=>call (.builtin "list.append") [.ref a,x] >>= fun _=>pure ()) (cw ge):=by
 intro pins s σ H Q μ Z M acc vs I hE hM hc ha hH hr h
 obtain ⟨x,M1,e,q⟩:=bp h
 split at q
 ·next hz=>
  have q:WB fa X.K a μ H Z Q (acc++[x]) M1:=q
  refine tqa (bx (he pins s σ H (fun v H1=>∃μ1,Ext μ H μ1 H1/\RelM fa X.K μ1 H1 M1/\Rep fa X.K μ1 H1 x v) I ⟨μ,Z,M,hE,hM,?_⟩) fun u s1 ⟨v,H1,I1,rv,μ1,x1,m1,r1⟩=>?_)
  ·rw [e];exact fun v H1 μ1 x1 m1 r1=>⟨μ1,x1,m1,r1⟩
  have hH1:H1 a=some (.lst vs):=by rw [x1.pk a ha];exact hH
  have ha1:a∈μ1.priv:=by rw [x1.pr];exact ha
  have hl:vs.length<sizeLine:=by rw [hr.length,<- d4];exact hz
  refine tqa (bx (sQ pins s1 σ H1 (.ref a) [v] (.ref a) [u] (fun _ H2=>H2=upd H1 a (.lst (vs++[v]))) I1 rfl (.cons rv .nil) ⟨a,vs,v,rfl,rfl,hH1,hl,rfl⟩) fun _ s2 ⟨_,H2,I2,_,e2⟩=>tqb ⟨σ,H2,I2,?_⟩)
  subst e2
  have xd:gW a μ1 H1 μ1 (upd H1 a (.lst (vs++[v]))):=gW.writeP ha1 hH1
  exact q σ _ μ1 (vs++[v]) (x1.toD.trans xd) ((hE.ext x1).extW xd.toExtW) (m1.writeP ha1 hH1) cn (((hr.ext x1).append (.one r1)).extW xd.toExtW)
 ·exact q.elim
theorem C6 {c:Expr}{gc:Env->Mem->Res Bool}{W:List Nat}{body:Sem Unit}{g:Env->List D->Mem->Res (List D)}(hc:DT fa X c gc)(hb:DB fa X a W body g) :
 DB fa X a W (isTrue c X.env (eval c X.env) >>= fun ok=>if ok=true then body else pure ()) (oX gc g):=by
 intro pins s σ H Q μ Z M acc vs I hE hM hw ha hH hr h
 obtain ⟨k,M1,e,q⟩:=bp h
 refine tqa (bx (hc pins s σ H (fun b H1=>b=k/\∃μ1,Ext μ H μ1 H1/\RelM fa X.K μ1 H1 M1) I ⟨μ,Z,M,hE,hM,?_⟩) fun b s1 ⟨H1,I1,eb,μ1,x1,m1⟩=>?_)
 ·rw [e];exact fun H1 μ1 x1 m1=>⟨rfl,μ1,x1,m1⟩
 subst eb
 have hH1:H1 a=some (.lst vs):=by rw [x1.pk a ha];exact hH
 have ha1:a∈μ1.priv:=by rw [x1.pr];exact ha
 cases b with
 | true =>
   rw [if_pos rfl]
   exact hb pins s1 σ H1 Q μ1 Z M1 acc vs I1 (hE.ext x1) m1 hw ha1 hH1 (hr.ext x1) (bb q fun _ _ w=>w.ext x1.toD)
 | false =>
   rw [if_neg tqj]
   have q:WB fa X.K a μ H Z Q acc M1:=q
   exact tqb ⟨σ,H1,I1,q σ H1 μ1 vs x1.toD (hE.ext x1) m1 hH1 (hr.ext x1)⟩
theorem wO {elt:Expr}{gens:List Comprehension}{scope:Scope}{pos p:Pos}{k:Nat}{tg:Expr}{body:Sem Unit}{t:dN}{W:List Nat}{g:Env->List D->Mem->Res (List D)}{it:Addr}{fp:List Addr}{tn:Nat->Heap->Prop}{J:It}
 (heq:compTurn (.ListComp elt gens scope pos) k (.ref it) (.ref a) X.env=(standAt p >>= fun _=>pyNext (.ref it) >>= fun r=>match r with
  |none=>pure (.done .next)
  |some v=>letOwnedTupleGo tg (.ref it) v >>= fun _=>assign tg X.env v >>= fun _=>body >>= fun _=>again (.compLoop (.ListComp elt gens scope pos) k (.ref it) (.ref a) X.env)))
 (hx:X.xe=FF) (hcalm:X.calm=true) (T:Turn X.prog X.w X.K tg J fp it tn) (hg:PG X tg (gT fa X.K t)) (hb:DB fa X a W body g) (hW:∀i∈W,i∉slots t)
 {pins:List (Addr×Obj)}{s:Shared}{σ:L2.St}{H:Hp}{Q:L2.St->Hp->Prop}{μ:Mu}{Z:Env}{M:Mem}{acc:List D}{vs:List V}{w:Walk} (I:Inv X pins σ H s) (st:tn 0 s.heap) (hf:∀b∈fp,ie X pins H b) (hE:bK fa X.K μ H σ Z) (hM:RelM fa X.K μ H M)
 (hcl:Clear (slots t++W) Z) (ha:a∈μ.priv) (hH:H a=some (.lst vs)) (hr:a9 fa X.K μ H acc vs) (wk:fj fa X.K μ H w J) (q:aq (d3 (d5 t g Z) w acc M) (WB fa X.K a μ H Z Q)) :
 codeAny (model X.prog X.w) X.A (.compLoop (.ListComp elt gens scope pos) k (.ref it) (.ref a) X.env) (fun r s'=>r=.ok .next/\∃σ' H',Inv X pins σ' H' s'/\Q σ' H') s:=by
 have stat:∀{H':Hp},(∀b∈fp,H' b=none)->∀b∈fp,ie X pins H' b:=fun hn b hb=>⟨hn b hb,(hf b hb).2⟩
 have clt:Clear (slots t) Z:=fun i hi=>hcl i (List.mem_append_left _ hi)
 have clW:∀d ρ1,dw t d Z=some ρ1->Clear W ρ1:=fun d ρ1 e i hi d' z=>by
  rw [(tf e).2 i (hW i hi)] at z
  exact hcl i (List.mem_append_right _ hi) d' z
 let P:Nat->Nat->Shared->Prop:=fun m i s'=>∃σ' H' μ' M' acc' vs',Inv X pins σ' H' s'/\tn i s'.heap/\(∀b∈fp,H' b=none)/\gW a μ H μ' H'/\bK fa X.K μ' H' σ' Z/\RelM fa X.K μ' H' M'/\H' a=some (.lst vs')/\a9 fa X.K μ' H' acc' vs'/\
  aq (fR (d5 t g Z) w m i acc' M') (WB fa X.K a μ H Z Q)
 have P0:∃m,P m 0 s:=⟨_,σ,H,μ,M,acc,vs,I,st,fun b hb=>(hf b hb).1,.refl,hE,hM,hH,hr,q⟩
 obtain ⟨m0,P0⟩:=P0
 have hturn:∀(n:Nat) (i:Nat) (s3:Shared),P n i s3->wpAny (model X.prog X.w) X.A (pyNext (.ref it)) (fun r s₁=>match r with
  |none=>(∃σ' H',Inv X pins σ' H' s₁/\Q σ' H')
  |some v=>wpAny (model X.prog X.w) X.A (letOwnedTupleGo tg (.ref it) v) (fun _ s₂=>wpAny (model X.prog X.w) X.A (assign tg X.env v) (fun _ s₃=>wpAny (model X.prog X.w) X.A body (fun _ s₄=>∃m,m<n/\P m (i+1) s₄) FF s₃) FF s₂) FF s₁) FF s3:=by
  rintro n i s3 ⟨σ3,H3,μ3,M3,acc3,vs3,I3,st3,fr3,x3,hE3,hM3,hH3,hr3,q3⟩
  have ha3:a∈μ3.priv:=by rw [x3.pr];exact ha
  have one:∀(d:D) (rest:List D->Mem->Res (List D)) (next:List D->Mem->Prop),J.go i H3->(∀x H',J.yld i H3 x H'->Ext μ3 H3 μ3 H'/\RelM fa X.K μ3 H' M3/\Rep fa X.K μ3 H' d x)->aq ((d5 t g Z acc3 d M3).bind rest) (WB fa X.K a μ H Z Q)->
   (∀σ' H' μ' M' acc' vs' s',Inv X pins σ' H' s'->tn (i+1) s'.heap->(∀b∈fp,H' b=none)->gW a μ H μ' H'->bK fa X.K μ' H' σ' Z->RelM fa X.K μ' H' M'->H' a=some (.lst vs')->a9 fa X.K μ' H' acc' vs'->aq (rest acc' M') (WB fa X.K a μ H Z Q)->∃m,m<n/\P m (i+1) s')->
   wpAny (model X.prog X.w) X.A (pyNext (.ref it)) (fun r s₁=>match r with
    |none=>(∃σ' H',Inv X pins σ' H' s₁/\Q σ' H')
    |some v=>wpAny (model X.prog X.w) X.A (letOwnedTupleGo tg (.ref it) v) (fun _ s₂=>wpAny (model X.prog X.w) X.A (assign tg X.env v) (fun _ s₃=>wpAny (model X.prog X.w) X.A body (fun _ s₄=>∃m,m<n/\P m (i+1) s₄) FF s₃) FF s₂) FF s₁) FF s3:=by
   intro d rest next go yl qd fin
   refine bx (T.item X rfl rfl rfl hcalm i pins s3 σ3 H3 FF I3 (stat fr3) st3 go) fun r s4 ⟨u,hr4,h4⟩=>?_
   subst hr4
   refine bx h4 fun _ s5 ⟨x,H5,I5,r5,y5,st5,fr5⟩=>?_
   obtain ⟨x5,hM5,rd⟩:=yl x H5 y5
   have I5':=I5.pinned (stat fr5) (T.obj _ _ st5)
   obtain ⟨acc6,M6,e6,q6⟩:=bp qd
   obtain ⟨ρ1,M7,e7,e8⟩:=fV e6
   cases eb:dw t d Z with
   |none=>rw [eb] at e7;cases e7
   | some ρ2 =>
     rw [eb] at e7
     cases e7
     have hg':=hg _ s5 σ3 H5 x u (fun σ' H'=>H'=H5/\bK fa X.K μ3 H5 σ' ρ1) I5' r5 ⟨μ3,Z,_,d,ρ1,hE3.ext x5,hM5,rd,eb,fun σ1 h1=>⟨rfl,h1⟩⟩
     rw [hx] at hg'
     refine bx hg' fun _ s6 ⟨σ6,H6,I6,eH,hE6⟩=>?_
     subst eH
     have hH6:H6 a=some (.lst vs3):=by rw [x5.pk a ha3];exact hH3
     have hb':=hb _ s6 σ6 H6 (fun σ' H'=>∃μ' vs',gW a μ3 H6 μ' H'/\bK fa X.K μ' H' σ' ρ1/\RelM fa X.K μ' H' M6/\H' a=some (.lst vs')/\a9 fa X.K μ' H' acc6 vs') μ3 ρ1 _ acc3 vs3 I6 hE6 hM5 (clW d ρ1 eb) ha3 hH6 (hr3.ext x5) (by
      rw [e8];exact fun σ' H' μ' vs' z1 z2 z3 z4 z5=>⟨μ',vs',z1,z2,z3,z4,z5⟩)
     rw [hx] at hb'
     refine bx hb' fun _ s7 ⟨σ7,H7,I7,μ7,vs7,x7,hE7,hM7,hH7,hr7⟩=>?_
     refine fin σ7 H7 μ7 M6 acc6 vs7 s7 I7.unpinned (T.keep _ _ _ st5 fun b hb o e=>(I7.pin (b,o) (List.mem_append_right _ (List.mem_append_right _ (kg hb e)))).1) (fun b hb=>?_) ((x3.trans x5.toD).trans x7) (hE7.unbind eb clt) hM7 hH7 hr7 q6
     obtain ⟨o,e,dd⟩:=T.obj _ _ st5 b hb
     exact (I7.pin (b,o) (List.mem_append_right _ (List.mem_append_right _ (kg hb e)))).2.1
  have stop:J.stop i H3->aq (.ok acc3 M3) (WB fa X.K a μ H Z Q)->wpAny (model X.prog X.w) X.A (pyNext (.ref it)) (fun r s₁=>match r with
   |none=>(∃σ' H',Inv X pins σ' H' s₁/\Q σ' H')
   |some v=>wpAny (model X.prog X.w) X.A (letOwnedTupleGo tg (.ref it) v) (fun _ s₂=>wpAny (model X.prog X.w) X.A (assign tg X.env v) (fun _ s₃=>wpAny (model X.prog X.w) X.A body (fun _ s₄=>∃m,m<n/\P m (i+1) s₄) FF s₃) FF s₂) FF s₁) FF s3:=fun hs q=>by
   refine bx (T.done X rfl rfl rfl hcalm i pins s3 σ3 H3 FF I3 (stat fr3) st3 hs) fun r s4 ⟨hr4,I4⟩=>?_
   subst hr4
   have q:WB fa X.K a μ H Z Q acc3 M3:=q
   exact ⟨σ3,H3,I4,q σ3 H3 μ3 vs3 x3 hE3 hM3 hH3 hr3⟩
  cases n with
  |zero=>exact q3.elim
  | succ n =>
    unfold fR at q3
    cases e2:w M3 with
    |none=>rw [e2] at q3;exact q3.elim
    | some ds =>
      rw [e2] at q3
      dsimp only at q3
      obtain ⟨go,stp⟩:=wk μ3 H3 M3 ds x3.toExtW hM3 e2
      cases ed:ds[i]? with
      | none =>
        rw [ed] at q3
        exact stop (stp i (List.getElem?_eq_none_iff.mp ed)) q3
      | some d =>
        rw [ed] at q3
        obtain ⟨g1,g2⟩:=go i d ed
        refine one d (fR (d5 t g Z) w n (i+1)) (fun _ _=>True) g1 g2 q3 ?_
        intro σ' H' μ' M' acc' vs' s' z1 z2 z3 z4 z5 z6 z7 z8 z9
        exact ⟨n,by omega,σ',H',μ',M',acc',vs',z1,z2,z3,z4,z5,z6,z7,z8,z9⟩
 refine Ag heq (fun n s'=>∃i,P n i s') (fun n s3 ⟨i,h3⟩=>?_) m0 ⟨0,P0⟩
 refine bx (hturn n i s3 h3) fun r s1 h=>?_
 cases r with
 |none=>exact ⟨rfl,h⟩
 |some v=>exact bx h fun _ s2 h=>bx h fun _ s3 h=>bx h fun _ s4 ⟨m,hm,h⟩=>⟨m,hm,i+1,h⟩
end
end LD
namespace LD
open PySem PySem.Spec PyProof.Rows L2
section
variable {prog:Program}{w:World}{A:Around}{s:Shared}{R:Result->Shared->Prop}
theorem tN {elt t1 i1 t2 i2:Expr}{f1 f2:List Expr}{scope:Scope}{pos:Pos}{it acc:Value}{env:PySem.Env}
 (h0:codeAny (model prog w) A (.compLoop (.ListComp elt [⟨t1,i1,f1,0⟩,⟨t2,i2,f2,0⟩] scope pos) 1 it acc env) R s)
 (h:wpAny (model prog w) A (pyIter it) (fun it' s'=>codeAny (model prog w) A (.compLoop (.ListComp elt [⟨t1,i1,f1,0⟩,⟨t2,i2,f2,0⟩] scope pos) 1 it' acc env) R s')
  (notedBy (model prog w) A env fun x s'=>R (.error x) s') s) :
 codeAny (model prog w) A (.compStart (.ListComp elt [⟨t1,i1,f1,0⟩,⟨t2,i2,f2,0⟩] scope pos) 1 it acc env) R s:=by
 refine codeAny_of_tree ?_
 show wpAny _ _ ((compStart (.ListComp elt [⟨t1,i1,f1,0⟩,⟨t2,i2,f2,0⟩] scope pos) 1 it acc env).onRaise (fun x=>do noteFrame x env;standAt theWindowsPlace)) _ _ s
 refine wpAny_notedAt ?_
 unfold compStart
 show wpAny _ _ (ask >>= _) _ _ s
 refine tqa (wpAny_askSetting (wpAny_ite ?_))
 split
 ·first
   |exact tqa (tqb (tqb (And.intro rfl h0)))
   |exact tqb (And.intro rfl h0)
 ·first
   |exact tqa (wpAny_rule (tqa (wpAny_standAt (tqa (wpAny_mono h (fun it' s' h'=>tqb (And.intro rfl h')) fun _ _ x=>x)))))
   |(refine tqa (wpAny_rule ?_);show wpAny _ _ (standAt i2.pos >>= _) _ _ s;exact tqa (wpAny_standAt (tqa (wpAny_mono h (fun it' s' h'=>tqb (And.intro rfl h')) fun _ _ x=>x))))
end
section
variable {fa:Fa}{X:Cx}{a:Addr}
theorem Iq {elt t1 i1 t2 i2:Expr}{scope:Scope}{pos:Pos}{t:dN}{gw:Env->Mem->Res Walk}{ge:Env->Mem->Res D}(hx:X.xe=FF)(hcalm:X.calm=true)(hi:DI fa X t2 i2 gw)(hg:PG X t2 (gT fa X.K t))(he:DE fa X elt ge)
 (hs:∀x,foldedSetIterable i2 X.env x=pure x) :
 DB fa X a (slots t) (eval i2 X.env >>= fun x=>standAt i2.pos >>= fun _=>foldedSetIterable i2 X.env x >>= fun x=>holding [x] (pyIter x) >>= fun j=>runOwn (.compStart (.ListComp elt [⟨t1,i1,[],0⟩,⟨t2,i2,[],0⟩] scope pos) 1 j (.ref a) X.env) X.env >>= fun _=>pure ()) (rT t gw (cw ge)):=by
 intro pins s σ H Q μ Z M acc vs I hE hM hc ha hH hr h
 obtain ⟨w,M1,e,q⟩:=bp h
 refine tqa (bx (hi pins s σ H (fun J H1=>∃μ1,Ext μ H μ1 H1/\RelM fa X.K μ1 H1 M1/\fj fa X.K μ1 H1 w J) I ⟨μ,Z,M,hE,hM,?_⟩) fun v s1 h1=>?_)
 ·rw [e];exact fun J H1 μ1 x1 m1 wk=>⟨μ1,x1,m1,wk⟩
 refine tqa (wpAny_standAt (tqa (wpAny_of_eq (hs v) (tqa (tqo (bx h1 fun itv s2 h2=>?_))))))
 obtain ⟨it,fp,tn,J,H2,ei,I2,T,st2,f2,μ2,x2,m2,wk⟩:=h2
 subst ei
 have hH2:H2 a=some (.lst vs):=by rw [x2.pk a ha];exact hH
 have ha2:a∈μ2.priv:=by rw [x2.pr];exact ha
 have go:=wO (elt:=elt) (gens:=[⟨t1,i1,[],0⟩,⟨t2,i2,[],0⟩]) (scope:=scope) (pos:=pos) (W:=[]) (Q:=Q) (AJ elt t1 i1 t2 i2 scope pos (.ref it) (.ref a) X.env) hx hcalm T hg (nX he) (fun i hi=>nomatch hi) I2 st2 f2 (hE.ext x2) m2 (by simpa using hc) ha2 hH2 (hr.ext x2) wk (bb q fun _ _ z=>z.ext x2.toD)
 refine tqa (wpAny_runOwn (h:=none) ?_)
 have go':codeAny (model X.prog X.w) (X.A.mark none) (.compLoop (.ListComp elt [⟨t1,i1,[],0⟩,⟨t2,i2,[],0⟩] scope pos) 1 (.ref it) (.ref a) X.env) (fun r s'=>match r with|.ok f=>wpAny (model X.prog X.w) X.A (pure ():Sem Unit) (fun _ s'=>∃σ' H',Inv X pins σ' H' s'/\Q σ' H') X.xe s'|.error e=>cameBackBy (model X.prog X.w) X.A X.env X.xe e s') s2:=
  codeAny_mono go fun r s' ⟨er,z⟩=>by subst er;exact tqb z
 exact tN go' (T.self _ 0 _ _ _ st2 go')
end
end LD
namespace LD
open PySem PySem.Spec PyProof.Rows L2
section
variable {fa:Fa}{K:PySem.W.Frag}{μ1 μ':Mu}{H1 H':Hp}{M1 M':Mem}{a:Addr}
def Hv (μ:Mu)(a:Addr):Mu:=⟨μ.pub,a::μ.priv⟩
theorem nU (h:RelM fa K μ1 H1 M1)(ha:H1 a=none)(o:HO):ExtW μ1 H1 (Hv μ1 a) (upd H1 a o):=by
 have x:ExtW μ1 H1 μ1 (upd H1 a o):=(Ext.alloc h ha).toExtW
 refine ⟨x.mu,x.tups,fun b vs e n=>⟨(x.lsts b vs e n).1,fun z=>?_⟩,x.frzs,x.exts⟩
 rcases z with z|z
 ·exact n (.inl z)
 ·rcases List.mem_cons.mp z with z|z
  ·subst z;rw [ha] at e;cases e
  ·exact n (.inr z)
theorem ze (h:RelM fa K μ1 H1 M1)(ha:H1 a=none)(vs:List V):RelM fa K (Hv μ1 a) (upd H1 a (.lst vs)) M1:=by
 have x:=nU h ha (.lst vs)
 refine ⟨fun k ds e=>?_,h.out,h.inj,fun b hb=>?_⟩
 ·obtain ⟨b,ws,h1,h2,h3⟩:=h.at' k ds e
  exact ⟨b,ws,h1,by rw [aX (bz h2 ha)];exact h2,h3.extW x⟩
 ·rcases List.mem_cons.mp hb with z|z
  ·subst z
   exact ⟨⟨vs,cn⟩,fun k e=>by
    obtain ⟨_,_,_,q,_⟩:=h.mu_lt e
    rw [ha] at q;cases q⟩
  ·obtain ⟨⟨ws,q⟩,n⟩:=h.pv b z
   exact ⟨⟨ws,by rw [aX (bz q ha)];exact q⟩,n⟩
theorem DZ {m:Bool}{acc:List D}{vs:List V}{Q:VK}(h:RelM fa K μ1 H1 M1)(ha:H1 a=none)(x:gW a (Hv μ1 a) (upd H1 a (.lst [])) μ' H')(hM:RelM fa K μ' H' M')(hH:H' a=some (.lst vs))(hr:a9 fa K μ' H' acc vs)
 (q:aq (bQ m acc M') (bJ fa K μ1 H1 Q)):Q (.ref a) H':=by
 have na:a∉μ1.priv:=fun z=>h.pne ha z rfl
 have hp:μ'.priv=a::μ1.priv:=x.pr
 have nk:∀k,μ'.pub k≠some a:=(hM.pv a (by rw [hp];exact List.mem_cons_self)).2
 have x0:=nU h ha (.lst [])
 have xe:Ext μ1 H1 ⟨μ'.pub,μ1.priv⟩ H':=by
  refine ⟨⟨fun k b e=>x.mu k b e,fun b ws e=>x.tups b ws (x0.tups b ws e),fun b ws e n=>?_,fun b ob u e=>x.frzs b ob u (x0.frzs b ob u e),fun b o i e=>x.exts b o i (x0.exts b o i e)⟩,rfl,fun b hb=>?_⟩
  ·obtain ⟨z1,z2⟩:=x0.lsts b ws e n
   obtain ⟨z3,z4⟩:=x.lsts b ws z1 z2
   refine ⟨z3,fun z=>z4 ?_⟩
   rcases z with z|z
   ·exact .inl z
   ·exact .inr (by rw [hp];exact List.mem_cons_of_mem _ z)
  ·have nb:b≠a:=fun e=>na (by rw [<- e];exact hb)
   rw [x.pk b (List.mem_cons_of_mem _ hb) nb,aX nb]
 have xw:ExtW μ' H' ⟨μ'.pub,μ1.priv⟩ H':=⟨fun _ _ e=>e,fun _ _ e=>e,fun b ws e n=>⟨e,fun z=>n (z.elim .inl fun z=>.inr (by rw [hp];exact List.mem_cons_of_mem _ z))⟩,fun _ _ _ e=>e,fun _ _ _ e=>e⟩
 have me:RelM fa K ⟨μ'.pub,μ1.priv⟩ H' M':=⟨fun k ds e=>let ⟨b,ws,h1,h2,h3⟩:=hM.at' k ds e;⟨b,ws,h1,h2,h3.extW xw⟩,hM.out,hM.inj,fun b hb=>hM.pv b (by rw [hp];exact List.mem_cons_of_mem _ hb)⟩
 have re:a9 fa K ⟨μ'.pub,μ1.priv⟩ H' acc vs:=hr.extW xw
 have nMt:¬ (⟨μ'.pub,μ1.priv⟩:Mu).Mt a:=fun z=>z.elim (fun ⟨k,e⟩=>nk k e) na
 unfold bQ at q
 split at q
 ·cases m with
  | false =>
    have q:bJ fa K μ1 H1 Q (.lst acc) M':=q
    exact q (.ref a) H' _ xe me ⟨a,vs,rfl,⟨hH,nMt⟩,re⟩
  | true =>
    have q:bJ fa K μ1 H1 Q (.cell M'.length) (M'++[acc]):=q
    have pc:∀k b,(gY ⟨μ'.pub,μ1.priv⟩ M'.length a).pub k=some b->(k=M'.length/\b=a)\/(k≠M'.length/\μ'.pub k=some b):=fun k b e=>by
     have e:(if k=M'.length then some a else μ'.pub k)=some b:=e
     split at e
     ·next z=>cases e;exact .inl ⟨z,rfl⟩
     ·next z=>exact .inr ⟨z,e⟩
    have mc:∀k b,μ'.pub k=some b->(gY ⟨μ'.pub,μ1.priv⟩ M'.length a).pub k=some b:=fun k b e=>by
     show (if k=M'.length then some a else μ'.pub k)=some b
     split
     ·next z=>rw [z,hM.out _ (tqg _)] at e;cases e
     ·exact e
    have ac:(gY ⟨μ'.pub,μ1.priv⟩ M'.length a).pub M'.length=some a:=by
     show (if M'.length=M'.length then some a else _)=some a
     rw [if_pos rfl]
    have nc:∀b,¬ μ'.Mt b->¬ (gY ⟨μ'.pub,μ1.priv⟩ M'.length a).Mt b:=fun b n z=>by
     rcases z with ⟨k,z⟩|z
     ·rcases pc k b z with ⟨_,e⟩|⟨_,e⟩
      ·exact n (.inr (by rw [hp,e];exact List.mem_cons_self))
      ·exact n (.inl ⟨k,e⟩)
     ·exact n (.inr (by rw [hp];exact List.mem_cons_of_mem _ z))
    have xc:ExtW μ' H' (gY ⟨μ'.pub,μ1.priv⟩ M'.length a) H':=⟨mc,fun _ _ e=>e,fun b ws e n=>⟨e,nc b n⟩,fun _ _ _ e=>e,fun _ _ _ e=>e⟩
    have xe2:Ext μ1 H1 (gY ⟨μ'.pub,μ1.priv⟩ M'.length a) H':=by
     refine ⟨⟨fun k b e=>mc k b (x.mu k b e),xe.tups,fun b ws e n=>?_,xe.frzs,xe.exts⟩,rfl,xe.pk⟩
     obtain ⟨z1,z2⟩:=x0.lsts b ws e n
     obtain ⟨z3,z4⟩:=x.lsts b ws z1 z2
     exact ⟨z3,nc b z4⟩
    have mce:RelM fa K (gY ⟨μ'.pub,μ1.priv⟩ M'.length a) H' (M'++[acc]):=by
     refine ⟨fun k ds e=>?_,fun k hk=>?_,fun j k b e1 e2=>?_,fun b hb=>?_⟩
     ·by_cases hk:k<M'.length
      ·rw [List.getElem?_append_left hk] at e
       obtain ⟨b,ws,h1,h2,h3⟩:=hM.at' k ds e
       exact ⟨b,ws,mc k b h1,h2,h3.extW xc⟩
      ·have hk':k=M'.length:=by
        have:=(List.getElem?_eq_some_iff.mp e).1
        simp at this;omega
       subst hk'
       rw [List.getElem?_append_right (tqg _)] at e
       simp at e
       subst e
       exact ⟨a,vs,ac,hH,hr.extW xc⟩
     ·simp at hk
      show (if k=M'.length then some a else μ'.pub k)=none
      rw [if_neg (by omega)]
      exact hM.out k (by omega)
     ·rcases pc j b e1 with ⟨j1,j2⟩|⟨j1,j2⟩<;>rcases pc k b e2 with ⟨k1,k2⟩|⟨k1,k2⟩
      ·omega
      ·exact absurd (j2 ▸ k2) (nk k)
      ·exact absurd (k2 ▸ j2) (nk j)
      ·exact hM.inj j k b j2 k2
     ·have hb:b∈μ1.priv:=hb
      obtain ⟨z1,z2⟩:=hM.pv b (by rw [hp];exact List.mem_cons_of_mem _ hb)
      refine ⟨z1,fun k e=>?_⟩
      rcases pc k b e with ⟨_,e⟩|⟨_,e⟩
      ·exact na (e ▸ hb)
      ·exact z2 k e
    exact q (.ref a) H' _ xe2 mce ⟨a,rfl,ac⟩
 ·exact q.elim
end
section
variable {fa:Fa}{X:Cx}
def cv (m:Bool)(n:Nat)(t:dN)(gw:Env->Mem->Res Walk)(g:Env->List D->Mem->Res (List D)):Env->Mem->Res D:=fun Z M=>
 (gw Z M).bind fun w M=>(d3 (d5 t g (List.replicate n none++Z)) w [] M).bind (bQ m)
def qU (X:Cx)(elt tg iter:Expr)(ifs:List Expr)(rest:List Comprehension)(scope:Scope)(pos:Pos)(body:Addr->PySem.Env->Sem Unit):Prop:=
 ∀(it a:Addr) (env:PySem.Env),compTurn (.ListComp elt (⟨tg,iter,ifs,0⟩::rest) scope pos) 0 (.ref it) (.ref a) env=(standAt iter.pos >>= fun _=>pyNext (.ref it) >>= fun r=>match r with
  |none=>pure (.done .next)
  |some v=>letOwnedTupleGo tg (.ref it) v >>= fun _=>assign tg env v >>= fun _=>body a env >>= fun _=>again (.compLoop (.ListComp elt (⟨tg,iter,ifs,0⟩::rest) scope pos) 0 (.ref it) (.ref a) env))
structure Block (fa:Fa) (X:Cx) (own bn:List Str) (scope:Scope) (tg:Expr) (t:dN) (W:List Nat) (body:Addr->PySem.Env->Sem Unit) (g:Env->List D->Mem->Res (List D)):Prop where
 pg:∀cl C fp s H,PG (cg X own bn scope cl C fp s H) tg (gT fa X.K t)
 db:∀cl C fp s H a,DB fa (cg X own bn scope cl C fp s H) a W (body a (compEnvC scope cl C X.env)) g
theorem Ai {n:Nat}{W:List Nat}{Z:Env}(h:∀i∈W,i<n):Clear W (List.replicate n none++Z):=fun i hi d e=>by
 rw [List.getElem?_append_left (by simpa using h i hi),List.getElem?_replicate] at e
 simp [h i hi] at e
theorem Be {K:PySem.W.Frag}{μ:Mu}{H:Hp}{σ:L2.St}{Z:Env}(n:Nat)(h:bK fa K μ H σ Z):bK fa K μ H (List.replicate n none++σ) (List.replicate n none++Z):=by
 refine ⟨by simp [h.len],fun i d e=>?_⟩
 by_cases hi:i<n
 ·rw [List.getElem?_append_left (by simpa using hi),List.getElem?_replicate] at e
  simp [hi] at e
 ·rw [List.getElem?_append_right (by simp;omega)] at e ⊢
  simp only [List.length_replicate] at e ⊢
  exact h.at' _ d e
theorem qS {elt tg iter:Expr}{ifs:List Expr}{rest:List Comprehension}{scope:Scope}{pos p0:Pos}{own bn:List Str}{t:dN}{W:List Nat}{body:Addr->PySem.Env->Sem Unit}{gw:Env->Mem->Res Walk}{g:Env->List D->Mem->Res (List D)}{m:Bool}
 (S:fN X own bn scope) (hcalm:X.calm=true) (hi:DI fa X tg iter gw) (B:Block fa X own bn scope tg t W body g) (hT:qU X elt tg iter ifs rest scope pos body) (hW:∀i∈W,i∉slots t) (hn:∀i∈slots t++W,i<own.length)
 (hs:∀x,foldedSetIterable iter X.env x=pure x) {use:Option (Value->Sem Unit)}{QQ:Value->Shared->Prop}
 {pins:List (Addr×Obj)}{s:Shared}{σ:L2.St}{H:Hp}{Q:VK}{μ:Mu}{Z:Env}{M:Mem} (I:Inv X pins σ H s) (hE:bK fa X.K μ H σ Z) (hM:RelM fa X.K μ H M) (h:aq (cv m own.length t gw g Z M) (bJ fa X.K μ H Q))
 (post:∀(a C:Addr) (s':Shared) (H':Hp),Inv X pins σ H' s'->Q (.ref a) H'->(∃m,s'.heap.Ns C m)->(∀σ2 H2 s2,Inv X pins σ2 H2 s2->(H' C=none->H2 C=none)->H2 C=none/\∀h'',Heap.SameBut C s2.heap h''->Inv X pins σ2 H2 {s2 with heap:=h''})->H' C=none->(C≠X.env.locals/\∀x c,X.env.cells.lookup x=some c->c≠C)->compPost (model X.prog X.w) X.A X.xe use QQ (.ref a) C (.ok .next) s') :
 wpAny (model X.prog X.w) X.A (comprehension (.ListComp elt (⟨tg,iter,ifs,0⟩::rest) scope pos) scope X.env p0 (newList []) false (eval iter X.env) use) QQ X.xe s:=by
 obtain ⟨w,M1,ew,q⟩:=bp h
 obtain ⟨acc,M2,ea,q2⟩:=bp q
 obtain ⟨cl,hcl,hsub,hhas⟩:=yo (scope:=scope) (env:=X.env) fun y hy hf=>I.ok.has y.1 (S.free y hy hf)
 have CL:Cl X scope cl:=⟨hsub,hhas⟩
 refine wpAny_comprehension_free (use:=use) rfl hs hcl S.kind S.loc ?_
 refine bx (hi pins s σ H (fun J H1=>∃μ1,Ext μ H μ1 H1/\RelM fa X.K μ1 H1 M1/\fj fa X.K μ1 H1 w J) I ⟨μ,Z,M,hE,hM,?_⟩) fun v s1 h1=>bx h1 fun itv s2 h2=>?_
 ·rw [ew];exact fun J H1 μ1 x1 m1 wk=>⟨μ1,x1,m1,wk⟩
 obtain ⟨it,fp,tn,J,H2,ei,I2,T,st2,f2,μ2,x2,m2,wk⟩:=h2
 subst ei
 refine wpAny_newObj_type ?_
 have ha:H2 s2.heap.objs.size=none:=I2.hok.fresh (tqg _)
 have I3:Inv X pins σ (upd H2 s2.heap.objs.size (.lst [])) {s2 with heap:=s2.heap.push {cls:=.type "list",dict:=none,data:=.seq ([]:List Value).toArray}}:=
  I2.laid (t':=s2.toks) (fun b o e=>tqc _ e) (tqg _) ⟨Nat.zero_le _,[],_,.nil,tqe _ rfl⟩
 generalize hs3:({s2 with heap:=s2.heap.push {cls:=.type "list",dict:=none,data:=.seq ([]:List Value).toArray}}:Shared)=s3 at I3 ⊢
 have k3:∀b o,s2.heap.get? b=some o->s3.heap.get? b=some o:=fun b o e=>by rw [<- hs3];exact tqc _ e
 have fo2:=T.obj _ _ st2
 have f3:∀b∈fp,ie X pins (upd H2 s2.heap.objs.size (.lst [])) b:=fun b hb=>by
  obtain ⟨o,e,_⟩:=fo2 b hb
  exact ⟨by rw [aX (tqk (tqd e))];exact (f2 b hb).1,(f2 b hb).2⟩
 have fo3:∀b∈fp,∃o,s3.heap.get? b=some o:=fun b hb=>let ⟨o,e,_⟩:=fo2 b hb;⟨o,k3 b o e⟩
 refine wpAny_newFunctionEnv S.nocell (by intro y hy;simp at hy) (fun h₁ hns₁ hsb₁=>?_) S.kind
 have k4:∀b o,s3.heap.get? b=some o->h₁.get? b=some o:=fun b o e=>hsb₁.extBut b o (tqk (tqd e)) (tqc _ e)
 have I4:=Cf (own:=own) (bn:=bn) (t':=s3.toks+([]:List (Str×Value)).length) I3 S CL f3 fo3 hns₁ k4
 have ok4:=I4.ok
 have f4:∀b∈fp,ie (cg X own bn scope cl s3.heap.objs.size fp s3 (upd H2 s2.heap.objs.size (.lst []))) [] (upd H2 s2.heap.objs.size (.lst [])) b:=fun b hb=>
  ⟨(f3 b hb).1,(ok4.exf b hb).1,ok4.exfs b hb,.inl hb,(ok4.exf b hb).2,fun p hp=>nomatch hp⟩
 have st4:tn 0 h₁:=T.keep _ _ _ st2 fun b hb o e=>k4 b o (k3 b o e)
 have x3:=nU m2 ha (.lst [])
 have go:=wO (X:=cg X own bn scope cl s3.heap.objs.size fp s3 (upd H2 s2.heap.objs.size (.lst []))) (fa:=fa) (a:=s2.heap.objs.size) (W:=W) (t:=t) (g:=g) (acc:=[]) (vs:=[]) (Q:=fun _ H'=>Q (.ref s2.heap.objs.size) H') (hT it s2.heap.objs.size _) rfl hcalm T (B.pg _ _ _ _ _) (B.db _ _ _ _ _ _) hW I4 st4 f4
  (Be own.length ((hE.ext x2).extW x3)) (ze m2 ha []) (Ai hn) List.mem_cons_self cn rfl (yE wk x3) (by
   rw [ea]
   intro σ' H' μ' vs' z1 z2 z3 z4 z5
   exact DZ (m:=m) m2 ha z1 z3 z4 z5 (l8 q2 x2))
 have go':codeAny (model X.prog X.w) X.A (.compLoop (.ListComp elt (⟨tg,iter,ifs,0⟩::rest) scope pos) 0 (.ref it) (.ref s2.heap.objs.size) (compEnvC scope cl s3.heap.objs.size X.env)) (compPost (model X.prog X.w) X.A X.xe use QQ (.ref s2.heap.objs.size) s3.heap.objs.size) {s3 with heap:=h₁,toks:=s3.toks+([]:List (Str×Value)).length}:=
  codeAny_mono go fun r s' ⟨er,σ',H',I',z⟩=>by
   subst er
   refine post _ _ s' H' (comp_back I3 f3 I') z (let ⟨m,hn,_⟩:=I'.loc;⟨m,hn⟩) (fun σ2 H2 s2' I2' hf=>⟨hf I'.free,fun h'' hs''=>Ah I3 (hf I'.free) I2' hs''⟩) I'.free ⟨Nat.ne_of_gt I3.lt,fun x c e z=>by
    obtain ⟨v,q⟩:=I3.cell x c e
    exact absurd q.lt (by rw [z];exact tqn _)⟩
 exact codeAny_compStart_list go' (T.self _ 0 _ _ _ st4 go')
theorem Ad (m:Bool){elt tg iter:Expr}{ifs:List Expr}{rest:List Comprehension}{scope:Scope}{pos:Pos}{own bn:List Str}{t:dN}{W:List Nat}{body:Addr->PySem.Env->Sem Unit}{gw:Env->Mem->Res Walk}{g:Env->List D->Mem->Res (List D)}
 (S:fN X own bn scope) (hcalm:X.calm=true) (hi:DI fa X tg iter gw) (B:Block fa X own bn scope tg t W body g) (hT:qU X elt tg iter ifs rest scope pos body) (hW:∀i∈W,i∉slots t) (hn:∀i∈slots t++W,i<own.length)
 (hs:∀x,foldedSetIterable iter X.env x=pure x):DE fa X (.ListComp elt (⟨tg,iter,ifs,0⟩::rest) scope pos) (cv m own.length t gw g):=by
 intro pins s σ H Q I ⟨μ,Z,M,hE,hM,h⟩
 rw [eval_ListComp]
 refine qS (use:=none) S hcalm hi B hT hW hn hs I hE hM h ?_
 intro a C s' H' I' q ⟨m,hn⟩ gone hf _
 exact ⟨m,hn,fun h' hs'=>⟨.ref a,H',(gone σ H' s' I' id).2 h' hs',rfl,q⟩⟩
theorem yk (m:Bool){i:Nat}{y:Str}{py spos:Pos}{elt tg iter:Expr}{ifs:List Expr}{rest:List Comprehension}{scope:Scope}{pos:Pos}{own bn:List Str}{t:dN}{W:List Nat}{body:Addr->PySem.Env->Sem Unit}{gw:Env->Mem->Res Walk}{g:Env->List D->Mem->Res (List D)}
 (S:fN X own bn scope) (hcalm:X.calm=true) (hi:DI fa X tg iter gw) (B:Block fa X own bn scope tg t W body g) (hT:qU X elt tg iter ifs rest scope pos body) (hW:∀i∈W,i∉slots t) (hn:∀i∈slots t++W,i<own.length)
 (hs:∀x,foldedSetIterable iter X.env x=pure x) (hN:X.N.Nodup) (hy:X.N[i]?=some y) (hl:X.env.scope.names.lookup y=some .local)
 (hsw:swapsWith (.ListComp elt (⟨tg,iter,ifs,0⟩::rest) scope pos) (some (.Name y py)) spos.line X.env=pure true) :
 DS fa X (.Assign [.Name y py] (.ListComp elt (⟨tg,iter,ifs,0⟩::rest) scope pos) spos) (fun Z M=>(cv m own.length t gw g Z M).bind fun x M=>(dg M (dw (.one i) x Z)).bind fun ρ1 M=>.ok (.next ρ1) M):=by
 intro pins s σ H D' I ⟨μ,Z,M,hE,hM,h⟩
 obtain ⟨x,M1,ex,q⟩:=bp h
 have q:∀σ' H' μ',Ext μ H μ' H'->bK fa X.K μ' H' σ' (Z.set i (some x))->RelM fa X.K μ' H' M1->D'.nx σ' H':=q
 rw [exec_Assign_Name_used _ _ _ _ hsw]
 refine tqa (wpAny_standAt (tqa ?_))
 show wpAny _ X.A (do let _ <- comprehension (.ListComp elt (⟨tg,iter,ifs,0⟩::rest) scope pos) scope X.env _ (newList []) false (eval iter X.env) (some (assign (.Name y py) X.env))) _ _ s
 refine tqa (bx (qS (use:=some (assign (.Name y py) X.env)) (QQ:=fun _ s'=>SP X pins D' .next s') (Q:=fun v H'=>D'.nx (σ.set i (some v)) H') S hcalm hi B hT hW hn hs I hE hM (by
  rw [ex]
  exact fun v H' μ' x1 m1 r1=>q _ H' μ' x1 ((hE.ext x1).set r1) m1) ?_) fun _ s' hq=>tqb (tqb hq))
 intro a C s' H' I' q ⟨m,hn⟩ gone hf ⟨nL,nC⟩
 refine wpAny_assign_Name (sD I' hN hy (.inl hl) (v:=.ref a) rfl (fun s2 I2 ⟨b,hb,hb2⟩=>?_) (.inr hl))
 have nb:C≠b:=by
  rcases hb2 with z|z
  ·rw [z];exact nL
  ·exact Ne.symm (nC y b z)
 exact ⟨m,hn.sameBut hb nb,fun h' hs'=>⟨_,H',(gone _ H' s2 I2 id).2 h' hs',q⟩⟩
end
end LD
namespace LD
open PySem PySem.Spec PyProof.Rows L2
section
variable {X:Cx}{pins:List (Addr×Obj)}{σ:L2.St}{H:Hp}{s:Shared}{h':Heap}{t':Nat}{ch:List Addr}
theorem vW (I:Inv X pins σ H s)(hf:∀b∈ch,ie X pins H b)(k:∀b o,b∉ch->s.heap.get? b=some o->h'.get? b=some o):Inv X pins σ H {s with heap:=h',toks:=t'}:=by
 have nit:∀b u,H b=some u->b∉ch:=fun b u e z=>by rw [(hf b z).1] at e;cases e
 refine I.step (g':=s.gens) (d':=s.drawn) (ch:=ch) (fun b hb=>⟨(hf b hb).2.2.2.1,(hf b hb).2.1,(hf b hb).2.2.2.2.1,(hf b hb).2.2.2.2.2⟩) (fun b o _ _ hc e _=>k b o hc e) (fun b o _ _ hc e _=>⟨o.slots,k b o hc e⟩) (fun _ _ _ _ n=>n)
  (fun b o hc e=>⟨o,k b o hc e⟩) (fun _ _ e=>e) (fun _ _ _ e=>e) (fun b ps e=>⟨#[],by rw [e];simp⟩) (fun m hm=>?_) (fun b u e=>?_) I.bare
 ·obtain ⟨o,es,ep,ho,r⟩:=hm
  exact ⟨o,es,ep,k _ o (fun z=>(hf _ z).2.1 rfl) ho,r⟩
 ·refine (I.hok b u e).stay (fun c v hc q=>k c v ?_ q) (fun _ q=>q) fun _ _ q=>q
  rcases hc with z|z
  ·rw [z];exact nit b u e
  ·exact nit c _ z
theorem sv {T:Addr}{o:HO}(I:Inv X pins σ H s)(hf:∀b∈ch,ie X pins H b)(k:∀b o,b∉ch->s.heap.get? b=some o->h'.get? b=some o)(hT:s.heap.objs.size<=T)(new:dz X.prog X.w (upd H T o) h' T o) :
 Inv X pins σ (upd H T o) {s with heap:=h',toks:=t'}:=by
 have hn:H T=none:=I.hok.fresh hT
 have nit:∀b u,H b=some u->b∉ch:=fun b u e z=>by rw [(hf b z).1] at e;cases e
 refine I.step (g':=s.gens) (d':=s.drawn) (ch:=ch) (fun b hb=>⟨(hf b hb).2.2.2.1,(hf b hb).2.1,(hf b hb).2.2.2.2.1,(hf b hb).2.2.2.2.2⟩) (fun b o _ _ hc e _=>k b o hc e) (fun b o _ _ hc e _=>⟨o.slots,k b o hc e⟩)
  (fun b o _ e n=>by rw [aX (tqk (tqi (tqd e) hT))];exact n)
  (fun b o hc e=>⟨o,k b o hc e⟩) (fun b xs e=>by rw [aX (bz e hn)];exact e) (fun b ob u e=>by rw [aX (bz e hn)];exact e) (fun b ps e=>⟨#[],by rw [aX (bz e hn),e];simp⟩) (fun m hm=>?_) (fun b u e=>?_) I.bare
 ·obtain ⟨o,es,ep,ho,r⟩:=hm
  exact ⟨o,es,ep,k _ o (fun z=>(hf _ z).2.1 rfl) ho,r⟩
 ·by_cases hb:b=T
  ·subst hb;rw [cn] at e;cases e;exact new
  ·rw [aX hb] at e
   refine (I.hok b u e).stay (fun c v hc q=>k c v ?_ q) (fun c q=>by rw [aX (bz q hn)];exact q) fun c xs q=>by rw [aX (bz q hn)];exact q
   rcases hc with z|z
   ·rw [z];exact nit b u e
   ·exact nit c _ z
end
def Kz (K:PySem.W.Frag)(a:Addr):It:=
 ⟨fun i H=>∃xs x,dq K H a xs/\xs[i]?=some x,fun i H v H'=>∃p x,H p=none/\v=.ref p/\H'=upd H p (.tup [.int i,x])/\∀xs,dq K H a xs->xs[i]?=some x,fun i H=>∃xs,dq K H a xs/\xs.length<=i⟩
theorem yK {P:Program}{w:World}{K:PySem.W.Frag}{elts:List Expr}{kk:Nat}{pos:Pos}(a it e:Addr)(hne:e≠it) :
 Turn P w K (.Tuple elts kk pos) (Kz K a) [e,it] e (fun i h=>(∃old,IsEnum h e it (i:Nat) old)/\h.IsListIter it a i) where
 mem:=by simp
 obj:=fun i h ⟨⟨old,he⟩,o,ho,c,d⟩ b hb=>by
  rcases List.mem_cons.mp hb with z|z
  ·subst z;exact ⟨_,he,fun v z=>by cases z⟩
  ·have e:b=it:=by simpa using z
   subst e
   exact ⟨o,ho,fun v z=>by rw [d] at z;cases z⟩
 keep:=fun i h h' ⟨⟨old,he⟩,st⟩ k=>⟨⟨old,k e (by simp) _ he⟩,st.at fun o e=>k it (by simp) o e⟩
 item:=by
  intro X hP hw hK hc i pins s σ H E I hf st hg
  subst hP hw hK
  obtain ⟨xs,x,hq,hx⟩:=hg
  obtain ⟨⟨old,he⟩,hit⟩:=st
  obtain ⟨its,rv,p,hz⟩:=I.list hq
  obtain ⟨u,hu,ru⟩:=rv.get hx
  refine wpAny_pyNext_enum_item he hit p.isList (x:=u) (by simpa using hu) hne fun h1 ho hit1 hT hsz hk=>⟨_,rfl,?_⟩
  have hT0:H s.heap.objs.size=none:=I.hok.fresh (tqg _)
  have elt:e<s.heap.objs.size:=tqd he
  refine wpAny_letOwnedTupleGo_enum (s:={s with heap:=h1,toks:=s.toks+1}) ho fun h2 he2 hs2=>?_
  have he2:IsEnum h2 e it ((i+1:Nat):Int) u:=by simpa using he2
  have hT2:h2.get? s.heap.objs.size=some {cls:=.type "tuple",data:=.seq #[.int i s.toks,u]}:=(hs2.2 _ (Nat.ne_of_gt elt)).trans hT
  refine ⟨.ref s.heap.objs.size,upd H s.heap.objs.size (.tup [.int i,x]),sv (s:=s) (t':=s.toks+1) I hf (fun b o hb q=>(hs2.2 b (fun z=>hb (by simp [z]))).trans (hk b o (fun z=>hb (by simp [z])) (fun z=>hb (by simp [z])) q)) (tqg _) ⟨?_,[.int i s.toks,u],.cons ⟨_,rfl⟩ (.cons ru .nil),⟨_,hT2,rfl,_,rfl⟩⟩,rfl,
   ⟨_,x,hT0,rfl,rfl,fun ys hy=>by rw [I.list_inj hy hq];exact hx⟩,⟨⟨u,he2⟩,hit1.extBut hs2.extBut (Ne.symm hne)⟩,fun b hb=>?_⟩
  ·show 2<=sizeLine;decide
  ·have:b<s.heap.objs.size:=by
    rcases List.mem_cons.mp hb with z|z
    ·subst z;exact elt
    ·have e:b=it:=by simpa using z
     subst e
     obtain ⟨o,e,_⟩:=hit;exact tqd e
   rw [aX (tqk this)];exact (hf b hb).1
 done:=by
  intro X hP hw hK hc i pins s σ H E I hf st hg
  subst hP hw hK
  obtain ⟨xs,hq,hx⟩:=hg
  obtain ⟨⟨old,he⟩,hit⟩:=st
  obtain ⟨its,rv,p,hz⟩:=I.list hq
  have hl:=rv.length
  exact wpAny_pyNext_enum_end (I.ok.hd hc) he hit p.isList (by simp;omega) fun h' eb=>⟨rfl,vW I hf (t':=s.toks) fun b o hb q=>eb b o (fun z=>hb (by simp [z])) q⟩
 self:=fun _ _ _ _ _ ⟨⟨old,he⟩,_⟩ h=>wpAny_pyIter_enum he h
section
variable {fa:Fa}{X:Cx}{a:Expr}{ga:Env->Mem->Res D}{pos p:Pos}
theorem fe:∀(ds:List D) (k i:Nat),(dD k ds)[i]?=(ds[i]?).map fun d=>.tup [.int ((k+i:Nat):Int),d]
 |[],_,_=>by simp [dD]
 |d::ds,k,0=>by simp [dD]
 | d :: ds, k, i + 1 => by
   have:=fe ds (k+1) i
   simp only [dD,List.getElem?_cons_succ,this]
   congr 1
   funext d
   congr 3
   omega
theorem jd:∀(ds:List D) (k:Nat),(dD k ds).length=ds.length
 |[],_=>rfl
 |d::ds,k=>by simp [dD,jd ds]
theorem yG {μ0:Mu}{H0:Hp}{dd:D}{ad:Addr}(h:Rep fa X.K μ0 H0 dd (.ref ad)):fj fa X.K μ0 H0 (fun M=>(gD M dd).map (dD 0)) (Kz X.K ad):=fun μ H M ds x hM e=>by
 dsimp only at e
 cases e0:gD M dd with
 |none=>rw [e0] at e;cases e
 | some es =>
   rw [e0] at e
   have e:dD 0 es=ds:=Option.some.inj e
   subst e
   obtain ⟨ad',vs,ea,s,r⟩:=cf hM (Rep.extW x h) e0
   cases ea
   refine ⟨fun i d hd=>?_,fun i hi=>⟨vs,s,by rw [r.length,<- jd es 0];exact hi⟩⟩
   rw [fe] at hd
   cases e1:es[i]? with
   |none=>rw [e1] at hd;cases hd
   | some d0 =>
     rw [e1] at hd
     have hd:D.tup [.int ((0+i:Nat):Int),d0]=d:=Option.some.inj hd
     subst hd
     obtain ⟨v,hv,rv⟩:=r.get e1
     refine ⟨⟨vs,v,s,hv⟩,fun y H' ⟨q,z,hq,ey,eH,hy⟩=>?_⟩
     have:=hy vs s
     rw [hv] at this;cases this
     subst eH ey
     refine ⟨Ext.alloc hM hq,hM.alloc hq,q,[.int i,v],rfl,.inl (.inl cn),.int i,[v],rfl,?_,v,[],rfl,rv.ext (Ext.alloc hM hq),rfl⟩
     show V.int i=V.int ((0+i:Nat):Int)
     rw [Nat.zero_add]
def mR (ga:Env->Mem->Res D):Env->Mem->Res Walk:=fun Z M=>(ga Z M).bind fun x M=>match x with
 |.lst ds=>.ok (fun _=>some (dD 0 ds)) M
 |.frz ds=>.ok (fun _=>some (dD 0 ds)) M
 |.cell k=>.ok (fun M=>(M[k]?).map (dD 0)) M
 |_=>.bad
theorem EN {elts:List Expr}{kk:Nat}{tp:Pos}(ha:DE fa X a ga)(hg:Gl X "enumerate")(hm:X.mg "enumerate"=none)(hs:starEach [a] X.env=[(false,eval a X.env)]):DI fa X (.Tuple elts kk tp) (.Call (.Name "enumerate" p) [a] [] pos) (mR ga):=by
 intro pins s σ H R I ⟨μ,Z,M,hE,hM,h⟩
 obtain ⟨x,M1,e,q⟩:=bp h
 have key:(∀μ' H',RelM fa X.K μ' H' M1->∀v,Rep fa X.K μ' H' x v->∃ds,gD M1 x=some ds)->(∀J H' μ',Ext μ H μ' H'->RelM fa X.K μ' H' M1->fj fa X.K μ' H' (fun M=>(gD M x).map (dD 0)) J->R J H')->
  wpAny (model X.prog X.w) X.A (eval (.Call (.Name "enumerate" p) [a] [] pos) X.env) (fun v s1=>wpAny (model X.prog X.w) X.A (pyIter v) (Dc X pins σ (.Tuple elts kk tp) R) X.xe s1) X.xe s:=fun hx q=>by
  refine Call_ (jU I hg hm boot_enumerate (PyProof.Rows.callWith_type1 (bx (cN ha fb hs pos pins s σ H (fun vs H1=>∃v μ1,vs=[v]/\Ext μ H μ1 H1/\RelM fa X.K μ1 H1 M1/\Rep fa X.K μ1 H1 x v) I ⟨μ,Z,M,hE,hM,?_⟩) fun us s1 ⟨vs,H1,I1,r1,v,μ1,ev,x1,m1,rv⟩=>?_) hs rfl))
  ·rw [e];exact fun v H1 μ1 x1 m1 r1=>⟨v,μ1,rfl,x1,m1,r1⟩
  subst ev
  obtain ⟨ds,er⟩:=hx μ1 H1 m1 v rv
  obtain ⟨ad,vs,rfl,s1',r⟩:=cf m1 rv er
  cases r1 with
  | cons r1 rr =>
    cases rr
    obtain rfl:=r1
    obtain ⟨its,rvs,pl,hz⟩:=I1.list s1'
    refine call_enumerate_list pl.isList fun h1 he hit hsz hk=>?_
    have I2:Inv X pins σ H1 {s1 with heap:=h1}:=I1.kept (t':=s1.toks) hk
    refine wpAny_pyIter_enum (s:={s1 with heap:=h1}) he ?_
    refine ⟨s1.heap.objs.size+1,[s1.heap.objs.size+1,s1.heap.objs.size],_,_,H1,rfl,I2,yK ad s1.heap.objs.size (s1.heap.objs.size+1) (Nat.succ_ne_self _),⟨⟨.none,he⟩,hit⟩,fun b hb=>?_,q _ H1 μ1 x1 m1 (yG rv)⟩
    have hb:s1.heap.objs.size<=b:=by
     rcases List.mem_cons.mp hb with z|z
     ·subst z;exact Nat.le_succ _
     ·have e:b=s1.heap.objs.size:=by simpa using z
      subst e;exact tqg _
    exact I1.fpOk hb (I1.hok.fresh hb)
 cases x with
 |lst ds=>exact key (fun _ _ _ _ _=>⟨ds,rfl⟩) q
 |frz ds=>exact key (fun _ _ _ _ _=>⟨ds,rfl⟩) q
 |cell k=>exact key (fun μ' H' m' v ⟨ad,_,hk⟩=>let ⟨ds,_,e,_⟩:=m'.mu_lt hk;⟨ds,e⟩) q
 |_=>exact q.elim
end
end LD
namespace LD
open PySem PySem.Spec PyProof.Rows L2
def cj:Bool->Heap->Addr->Array Value->Prop
 |true,h,a,its=>h.IsList a its
 |false,h,a,its=>h.IsTuple a its
def c8:Bool->Heap->Addr->Addr->Nat->Prop
 |true,h,it,a,i=>h.IsListIter it a i
 |false,h,it,a,i=>h.IsTupleIter it a i
theorem cj.extBut {b:Bool}{h h':Heap}{a c:Addr}{its:Array Value}(x:cj b h a its)(hs:Heap.ExtBut c h h')(n:a≠c):cj b h' a its:=by
 cases b<;>(obtain ⟨o,ho,r⟩:=x;exact ⟨o,hs a o n ho,r⟩)
theorem c8.extBut {b:Bool}{h h':Heap}{it a c:Addr}{i:Nat}(x:c8 b h it a i)(hs:Heap.ExtBut c h h')(n:it≠c):c8 b h' it a i:=by
 cases b<;>(obtain ⟨o,ho,r⟩:=x;exact ⟨o,hs it o n ho,r⟩)
theorem c8.at {b:Bool}{h h':Heap}{it a:Addr}{i:Nat}(x:c8 b h it a i)(k:∀o,h.get? it=some o->h'.get? it=some o):c8 b h' it a i:=by
 cases b<;>(obtain ⟨o,ho,r⟩:=x;exact ⟨o,k o ho,r⟩)
theorem c8.obj {b:Bool}{h:Heap}{it a:Addr}{i:Nat}(x:c8 b h it a i):∃o,h.get? it=some o/\∀v,o.data≠.cell v:=by
 cases b<;>(obtain ⟨o,ho,c,d⟩:=x;exact ⟨o,ho,fun v z=>by rw [d] at z;cases z⟩)
section
variable {prog:Program}{w:World}{A:Around}{E:Value->Shared->Prop}{s:Shared}
theorem bY {a b:Nat}(h:a≠b):@Ne Addr a b:=h
theorem uj {T:Addr}{its:Array Value}{k:Nat}{x:Value}{Q:Unit->Shared->Prop}(hT:s.heap.get? T=some {cls:=.type "tuple",data:=.seq its})(hz:its.size<=64)
 (h:∀h',h'.get? T=some {cls:=.type "tuple",data:=.seq (its.setIfInBounds k x)}->Heap.SameBut T s.heap h'->Q () {s with heap:=h'}) :
 wpAny (model prog w) A (updateSeq T (·.setIfInBounds k x)) Q E s:=by
 refine wpAny_updateSeq hT rfl (h _ ?_ (Heap.SameBut.update ..)) (tqh hz (by decide)) (by rw [Array.size_setIfInBounds];exact tqh hz (by decide))
 rw [tqm _ hT rfl]
 simp [Obj.mapSeq]
theorem lR {b:Bool}{it a:Addr}{i:Nat}{its:Array Value}{x:Value}{Q:Value->Shared->Prop}(hit:c8 b s.heap it a i)(hl:cj b s.heap a its)(hx:its[i]?=some x)
 (hQ:∀h',c8 b h' it a (i+1)->Heap.SameBut it s.heap h'->Q x {s with heap:=h'}):wpAny (model prog w) A (Builtin.SmallTypes.nextOf (.ref it)) Q E s:=by
 cases b with
 |true=>exact wpAny_nextOf_list_item hit hl hx hQ
 | false =>
   have hit:s.heap.IsTupleIter it a i:=hit
   obtain ⟨o,ho,hc,hd⟩:=id hit
   obtain ⟨ol,hol,_,nl,hdl⟩:=hl
   unfold Builtin.SmallTypes.nextOf
   refine tqa (wpAny_callSpecial?_slot (name:=Str.ofString "__next__") hit.typeIs F.slot_tuple_iterator_next
    (wpAny_call_entry F.slot_tuple_iterator_next hit.typeIs F.entry_tuple_iterator_next ?_ (F.args_tuple_iterator_next_1 _)))
   show wpAny _ _ (field (.ref it) 0 >>= _) _ _ s
   refine tqa (tqf ho hd (x:=.ref a) rfl ?_)
   show wpAny _ _ (if (Value.ref a==Value.none)=true then _ else _) _ _ s
   rw [if_neg (show ¬ ((Value.ref a==Value.none)=true) from tqj)]
   show wpAny _ _ (field (.ref it) 1 >>= _) _ _ s
   refine tqa (tqf ho hd (x:=.int i 0) rfl ?_)
   show wpAny _ _ (seqItems? (.ref a) >>= _) _ _ s
   refine tqa (wpAny_seqItems hol hdl ?_)
   simp only [Int.toNat_natCast,hx]
   refine tqa (wpAny_setField ho hd (by simp) (tqb ⟨x,rfl,tqb (hQ _ ?_ (Heap.SameBut.update ..))⟩))
   exact ⟨_,tqm _ ho (Obj.isFreed_of_fields (Obj.data_mapFields hd _)),(Obj.cls_mapFields ..).trans hc,by
    rw [Obj.data_mapFields hd];simp [rawInt]⟩
theorem qE {b:Bool}{it a:Addr}{i:Nat}{its:Array Value}{Q:Value->Shared->Prop}(hh:A.handled=none)(hit:c8 b s.heap it a i)(hl:cj b s.heap a its)(hx:its[i]?=none)
 (hE:∀h' e,Heap.ExtBut it s.heap h'->(∃o,h'.get? e=some o/\o.cls=.type "StopIteration")->E (.ref e) {s with heap:=h'}):wpAny (model prog w) A (Builtin.SmallTypes.nextOf (.ref it)) Q E s:=by
 cases b with
 |true=>exact wpAny_nextOf_list_end hh hit hl hx hE
 | false =>
   have hit:s.heap.IsTupleIter it a i:=hit
   obtain ⟨o,ho,hc,hd⟩:=id hit
   obtain ⟨ol,hol,_,nl,hdl⟩:=hl
   unfold Builtin.SmallTypes.nextOf
   refine tqa (wpAny_callSpecial?_slot (name:=Str.ofString "__next__") hit.typeIs F.slot_tuple_iterator_next
    (wpAny_call_entry F.slot_tuple_iterator_next hit.typeIs F.entry_tuple_iterator_next ?_ (F.args_tuple_iterator_next_1 _)))
   show wpAny _ _ (field (.ref it) 0 >>= _) _ _ s
   refine tqa (tqf ho hd (x:=.ref a) rfl ?_)
   show wpAny _ _ (if (Value.ref a==Value.none)=true then _ else _) _ _ s
   rw [if_neg (show ¬ ((Value.ref a==Value.none)=true) from tqj)]
   show wpAny _ _ (field (.ref it) 1 >>= _) _ _ s
   refine tqa (tqf ho hd (x:=.int i 0) rfl ?_)
   show wpAny _ _ (seqItems? (.ref a) >>= _) _ _ s
   refine tqa (wpAny_seqItems hol hdl ?_)
   simp only [Int.toNat_natCast,hx]
   refine tqa (wpAny_rule (tqa (wpAny_setField ho hd (by simp) ?_)))
   show wpAny _ _ (newExc (.type "StopIteration") [] >>= _) _ _ _
   refine tqa ?_
   simp only [newExc,newTuple]
   refine tqa (wpAny_newObj_type ?_ (by size_fits))
   refine tqa (m:=firstArgMember _ _) (wpAny_of_eq (a:=Value.none) (by first|rfl|(simp only [firstArgMember];rfl)) ?_)
   refine wpAny_newObj_type ?_ (by size_fits)
   simp only [raiseNew]
   refine tqa (wpAny_handled ?_)
   first|rw [show A.in1.handled=none from hh]|rw [hh]
   refine tqa (tqb (wpAny_throw ?_))
   exact hE _ _ (((Heap.SameBut.update ..).extBut.push _).push _) ⟨_,tqe _ rfl,rfl⟩
theorem yy {n i:Nat}{a0 a1:Nat}{b0 b1:Bool}{xs0 xs1:Array Value}{x0 x1 u0 u1:Value}{Q:Value->Shared->Prop}(hn:a0<n/\a1<n)
 (hz:IsZip s.heap (n+4) (n+2) (n+3) .none) (hTI:s.heap.get? (n+2)=some {cls:=.type "tuple",data:=.seq #[.ref n,.ref (n+1)]}) (hTO:s.heap.get? (n+3)=some {cls:=.type "tuple",data:=.seq #[u0,u1]})
 (i0:c8 b0 s.heap n a0 i) (i1:c8 b1 s.heap (n+1) a1 i) (q0:cj b0 s.heap a0 xs0) (q1:cj b1 s.heap a1 xs1)
 (e0:xs0[i]?=some x0) (e1:xs1[i]?=some x1)
 (hQ:∀h',IsZip h' (n+4) (n+2) (n+3) (rawInt s.heap.objs.size)->h'.get? (n+3)=some {cls:=.type "tuple",data:=.seq #[x0,x1]}->c8 b0 h' n a0 (i+1)->c8 b1 h' (n+1) a1 (i+1)->h'.get? s.heap.objs.size=some {cls:=.type "tuple",data:=.seq #[x0,x1]}->h'.objs.size=s.heap.objs.size+1->
  (∀c o,c∉[n,(n+1),(n+3),(n+4)]->s.heap.get? c=some o->h'.get? c=some o)->Q (.ref s.heap.objs.size) {s with heap:=h'}) :
 wpAny (model prog w) A (Builtin.«zip.__next__» ⟨[.ref (n+4)],[]⟩) (fun fin s'=>∃v,fin=.done (.ret v)/\Q v s') E s:=by
 obtain ⟨l0,l1⟩:=hn
 show wpAny _ _ (field (.ref (n+4)) 2 >>= _) _ _ _
 refine tqa (tqf hz rfl (x:=.bool false) rfl ?_)
 show wpAny _ _ (field (.ref (n+4)) 3 >>= _) _ _ _
 refine tqa (tqf hz rfl (x:=.ref (n+2)) rfl ?_)
 refine tqa (wpAny_seqItems hTI rfl ?_)
 show wpAny _ _ (Builtin.SmallTypes.ownedTupleIsFree (.ref (n+4)) >>= _) _ _ _
 refine tqa ?_
 unfold Builtin.SmallTypes.ownedTupleIsFree
 refine tqa (tqf hz rfl (x:=.none) rfl (tqb ?_))
 simp only [if_true]
 refine tqa (wpAny_rule ?_)
 refine tqa (tqf hz rfl (x:=.ref (n+3)) rfl ?_)
 refine tqa (wpAny_setField_rec hz (by simp) fun h0 hz0 hs0=>?_)
 replace hz0:IsZip h0 (n+4) (n+2) (n+3) .ellipsis:=hz0
 have k0:∀c o,c∉[n,(n+1),(n+3),(n+4)]->s.heap.get? c=some o->h0.get? c=some o:=fun c o hc e=>hs0.extBut _ _ (fun z=>hc (by rw [z];simp)) e
 have hTO0:h0.get? (n+3)=some {cls:=.type "tuple",data:=.seq #[u0,u1]}:=hs0.extBut _ _ (bY (by omega)) hTO
 have hsz0:h0.objs.size=s.heap.objs.size:=hs0.1
 refine tqa ?_
 simp only [List.zipIdx_cons,List.zipIdx_nil,List.forIn_cons,List.forIn_nil]
 have j0_0:c8 b0 h0 n a0 i:=i0.extBut hs0.extBut (bY (by omega))
 have p0_0:cj b0 h0 a0 xs0:=q0.extBut hs0.extBut (bY (by omega))
 have j1_0:c8 b1 h0 (n+1) a1 i:=i1.extBut hs0.extBut (bY (by omega))
 have p1_0:cj b1 h0 a1 xs1:=q1.extBut hs0.extBut (bY (by omega))
 refine tqa (tqa (wpAny_onRaise ?_))
 show wpAny _ _ (Builtin.SmallTypes.nextOf (.ref n) >>= _) _ _ _
 refine tqa (lR j0_0 p0_0 e0 fun h1 j0_1 hs1=>tqb ?_)
 have hTO1:h1.get? (n+3)=some {cls:=.type "tuple",data:=.seq #[u0,u1]}:=hs1.extBut _ _ (bY (by omega)) hTO0
 refine tqa (wpAny_seqItems hTO1 rfl ?_)
 refine tqa (uj hTO1 (by simp) fun h2 hTO2 hs2=>?_)
 replace hTO2:h2.get? (n+3)=some {cls:=.type "tuple",data:=.seq #[x0,u1]}:=hTO2
 have hz2:IsZip h2 (n+4) (n+2) (n+3) .ellipsis:=hs2.extBut _ _ (bY (by omega)) (hs1.extBut _ _ (bY (by omega)) hz0)
 have k2:∀c o,c∉[n,(n+1),(n+3),(n+4)]->s.heap.get? c=some o->h2.get? c=some o:=fun c o hc e=>hs2.extBut _ _ (fun z=>hc (by rw [z];simp)) (hs1.extBut _ _ (fun z=>hc (by rw [z];simp)) (k0 c o hc e))
 have hsz2:h2.objs.size=s.heap.objs.size:=by rw [hs2.1,hs1.1,hsz0]
 have j0_2:c8 b0 h2 n a0 (i+1):=j0_1.extBut hs2.extBut (bY (by omega))
 have p0_2:cj b0 h2 a0 xs0:=(p0_0.extBut hs1.extBut (bY (by omega))).extBut hs2.extBut (bY (by omega))
 have j1_2:c8 b1 h2 (n+1) a1 i:=(j1_0.extBut hs1.extBut (bY (by omega))).extBut hs2.extBut (bY (by omega))
 have p1_2:cj b1 h2 a1 xs1:=(p1_0.extBut hs1.extBut (bY (by omega))).extBut hs2.extBut (bY (by omega))
 refine tqa (wpAny_letGo (tqb ?_))
 refine tqa (tqa (wpAny_onRaise ?_))
 show wpAny _ _ (Builtin.SmallTypes.nextOf (.ref (n+1)) >>= _) _ _ _
 refine tqa (lR j1_2 p1_2 e1 fun h3 j1_3 hs3=>tqb ?_)
 have hTO3:h3.get? (n+3)=some {cls:=.type "tuple",data:=.seq #[x0,u1]}:=hs3.extBut _ _ (bY (by omega)) hTO2
 refine tqa (wpAny_seqItems hTO3 rfl ?_)
 refine tqa (uj hTO3 (by simp) fun h4 hTO4 hs4=>?_)
 replace hTO4:h4.get? (n+3)=some {cls:=.type "tuple",data:=.seq #[x0,x1]}:=hTO4
 have hz4:IsZip h4 (n+4) (n+2) (n+3) .ellipsis:=hs4.extBut _ _ (bY (by omega)) (hs3.extBut _ _ (bY (by omega)) hz2)
 have k4:∀c o,c∉[n,(n+1),(n+3),(n+4)]->s.heap.get? c=some o->h4.get? c=some o:=fun c o hc e=>hs4.extBut _ _ (fun z=>hc (by rw [z];simp)) (hs3.extBut _ _ (fun z=>hc (by rw [z];simp)) (k2 c o hc e))
 have hsz4:h4.objs.size=s.heap.objs.size:=by rw [hs4.1,hs3.1,hsz2]
 have j0_4:c8 b0 h4 n a0 (i+1):=(j0_2.extBut hs3.extBut (bY (by omega))).extBut hs4.extBut (bY (by omega))
 have p0_4:cj b0 h4 a0 xs0:=(p0_2.extBut hs3.extBut (bY (by omega))).extBut hs4.extBut (bY (by omega))
 have j1_4:c8 b1 h4 (n+1) a1 (i+1):=j1_3.extBut hs4.extBut (bY (by omega))
 have p1_4:cj b1 h4 a1 xs1:=(p1_2.extBut hs3.extBut (bY (by omega))).extBut hs4.extBut (bY (by omega))
 refine tqa (wpAny_letGo (tqb (tqb ?_)))
 refine tqa (wpAny_seqItems hTO4 rfl ?_)
 refine tqa (wpAny_newTuple ?_)
 have hzlt:(n+4)<h4.objs.size:=tqd hz4
 show wpAny _ _ (Builtin.SmallTypes.ownedTupleHandOut (.ref (n+4)) (.ref h4.objs.size) >>= _) _ _ _
 refine tqa ?_
 unfold Builtin.SmallTypes.ownedTupleHandOut
 have hz6:IsZip (h4.push {cls:=.type "tuple",data:=.seq #[x0,x1]}) (n+4) (n+2) (n+3) .ellipsis:=tqc _ hz4
 refine tqa (wpAny_setField_rec hz6 (by simp) fun h7 hz7 hs7=>?_)
 replace hz7:IsZip h7 (n+4) (n+2) (n+3) (rawInt h4.objs.size):=hz7
 refine wpAny_setField_rec hz7 (by simp) fun h8 hz8 hs8=>?_
 replace hz8:IsZip h8 (n+4) (n+2) (n+3) (rawInt h4.objs.size):=hz8
 have up:∀c o,c≠(n+4)->h4.get? c=some o->h8.get? c=some o:=fun c o c1 e=>hs8.extBut _ _ c1 (hs7.extBut _ _ c1 (tqc _ e))
 have hT8:h8.get? h4.objs.size=some {cls:=.type "tuple",data:=.seq #[x0,x1]}:=hs8.extBut _ _ (Nat.ne_of_gt hzlt) (hs7.extBut _ _ (Nat.ne_of_gt hzlt) (tqe _ rfl))
 have hzz:h8.objs.size=h4.objs.size+1:=by rw [hs8.1,hs7.1,Heap.size_push]
 rw [hsz4] at hz8 hT8 hzz
 refine tqb ⟨_,rfl,?_⟩
 show Q (.ref h4.objs.size) _
 rw [hsz4]
 exact hQ h8 hz8 (up _ _ (bY (by omega)) hTO4) (j0_4.at fun o e=>up _ o (bY (by omega)) e) (j1_4.at fun o e=>up _ o (bY (by omega)) e) hT8 hzz fun c o hc e=>up c o (fun z=>hc (by rw [z];simp)) (k4 c o hc e)
theorem Ap {n i:Nat}{a0 a1:Nat}{b0 b1:Bool}{xs0 xs1:Array Value}{u0 u1:Value}{Q:Fin->Shared->Prop}(hh:A.handled=none)(hn:a0<n/\a1<n)
 (hz:IsZip s.heap (n+4) (n+2) (n+3) .none) (hTI:s.heap.get? (n+2)=some {cls:=.type "tuple",data:=.seq #[.ref n,.ref (n+1)]}) (hTO:s.heap.get? (n+3)=some {cls:=.type "tuple",data:=.seq #[u0,u1]})
 (i0:c8 b0 s.heap n a0 i) (i1:c8 b1 s.heap (n+1) a1 i) (q0:cj b0 s.heap a0 xs0) (q1:cj b1 s.heap a1 xs1)
 (hend:xs0[i]?=none\/xs1[i]?=none)
 (hE:∀h' e,(∀c o,c∉[n,(n+1),(n+3),(n+4)]->s.heap.get? c=some o->h'.get? c=some o)->(∃o,h'.get? e=some o/\o.cls=.type "StopIteration")->E (.ref e) {s with heap:=h'}) :
 wpAny (model prog w) A (Builtin.«zip.__next__» ⟨[.ref (n+4)],[]⟩) Q E s:=by
 obtain ⟨l0,l1⟩:=hn
 show wpAny _ _ (field (.ref (n+4)) 2 >>= _) _ _ _
 refine tqa (tqf hz rfl (x:=.bool false) rfl ?_)
 show wpAny _ _ (field (.ref (n+4)) 3 >>= _) _ _ _
 refine tqa (tqf hz rfl (x:=.ref (n+2)) rfl ?_)
 refine tqa (wpAny_seqItems hTI rfl ?_)
 show wpAny _ _ (Builtin.SmallTypes.ownedTupleIsFree (.ref (n+4)) >>= _) _ _ _
 refine tqa ?_
 unfold Builtin.SmallTypes.ownedTupleIsFree
 refine tqa (tqf hz rfl (x:=.none) rfl (tqb ?_))
 simp only [if_true]
 refine tqa (wpAny_rule ?_)
 refine tqa (tqf hz rfl (x:=.ref (n+3)) rfl ?_)
 refine tqa (wpAny_setField_rec hz (by simp) fun h0 hz0 hs0=>?_)
 replace hz0:IsZip h0 (n+4) (n+2) (n+3) .ellipsis:=hz0
 have k0:∀c o,c∉[n,(n+1),(n+3),(n+4)]->s.heap.get? c=some o->h0.get? c=some o:=fun c o hc e=>hs0.extBut _ _ (fun z=>hc (by rw [z];simp)) e
 have hTO0:h0.get? (n+3)=some {cls:=.type "tuple",data:=.seq #[u0,u1]}:=hs0.extBut _ _ (bY (by omega)) hTO
 refine tqa ?_
 simp only [List.zipIdx_cons,List.zipIdx_nil,List.forIn_cons,List.forIn_nil]
 have j0_0:c8 b0 h0 n a0 i:=i0.extBut hs0.extBut (bY (by omega))
 have p0_0:cj b0 h0 a0 xs0:=q0.extBut hs0.extBut (bY (by omega))
 have j1_0:c8 b1 h0 (n+1) a1 i:=i1.extBut hs0.extBut (bY (by omega))
 have p1_0:cj b1 h0 a1 xs1:=q1.extBut hs0.extBut (bY (by omega))
 refine tqa (tqa (wpAny_onRaise ?_))
 show wpAny _ _ (Builtin.SmallTypes.nextOf (.ref n) >>= _) _ _ _
 cases e0:xs0[i]? with
 | none =>
   refine tqa (qE hh j0_0 p0_0 e0 fun h1 e hs1 he=>?_)
   obtain ⟨oe,hoe,hce⟩:=he
   have hz1:IsZip h1 (n+4) (n+2) (n+3) .ellipsis:=hs1 _ _ (bY (by omega)) hz0
   have hez:e≠(n+4):=fun x=>by subst x;rw [hz1] at hoe;cases hoe;simp at hce
   exact wpAny_setField_rec hz1 (by simp) fun h2 _ hs2=>hE h2 e (fun c o hc x=>hs2.extBut _ _ (fun z=>hc (by rw [z];simp)) (hs1 _ _ (fun z=>hc (by rw [z];simp)) (k0 c o hc x))) ⟨oe,hs2.extBut _ _ hez hoe,hce⟩
 | some x0 =>
   refine tqa (lR j0_0 p0_0 e0 fun h1 j0_1 hs1=>tqb ?_)
   have hTO1:h1.get? (n+3)=some {cls:=.type "tuple",data:=.seq #[u0,u1]}:=hs1.extBut _ _ (bY (by omega)) hTO0
   refine tqa (wpAny_seqItems hTO1 rfl ?_)
   refine tqa (uj hTO1 (by simp) fun h2 hTO2 hs2=>?_)
   replace hTO2:h2.get? (n+3)=some {cls:=.type "tuple",data:=.seq #[x0,u1]}:=hTO2
   have hz2:IsZip h2 (n+4) (n+2) (n+3) .ellipsis:=hs2.extBut _ _ (bY (by omega)) (hs1.extBut _ _ (bY (by omega)) hz0)
   have k2:∀c o,c∉[n,(n+1),(n+3),(n+4)]->s.heap.get? c=some o->h2.get? c=some o:=fun c o hc e=>hs2.extBut _ _ (fun z=>hc (by rw [z];simp)) (hs1.extBut _ _ (fun z=>hc (by rw [z];simp)) (k0 c o hc e))
   have j1_2:c8 b1 h2 (n+1) a1 i:=(j1_0.extBut hs1.extBut (bY (by omega))).extBut hs2.extBut (bY (by omega))
   have p1_2:cj b1 h2 a1 xs1:=(p1_0.extBut hs1.extBut (bY (by omega))).extBut hs2.extBut (bY (by omega))
   refine tqa (wpAny_letGo (tqb ?_))
   refine tqa (tqa (wpAny_onRaise ?_))
   show wpAny _ _ (Builtin.SmallTypes.nextOf (.ref (n+1)) >>= _) _ _ _
   cases e1:xs1[i]? with
   | none =>
     refine tqa (qE hh j1_2 p1_2 e1 fun h3 e hs3 he=>?_)
     obtain ⟨oe,hoe,hce⟩:=he
     have hz3:IsZip h3 (n+4) (n+2) (n+3) .ellipsis:=hs3 _ _ (bY (by omega)) hz2
     have hez:e≠(n+4):=fun x=>by subst x;rw [hz3] at hoe;cases hoe;simp at hce
     exact wpAny_setField_rec hz3 (by simp) fun h4 _ hs4=>hE h4 e (fun c o hc x=>hs4.extBut _ _ (fun z=>hc (by rw [z];simp)) (hs3 _ _ (fun z=>hc (by rw [z];simp)) (k2 c o hc x))) ⟨oe,hs4.extBut _ _ hez hoe,hce⟩
   | some x1 =>
     exfalso
     rcases hend with h|h
     ·rw [e0] at h;cases h
     ·rw [e1] at h;cases h
end
end LD
namespace LD
open PySem PySem.Spec PyProof.Rows L2
def pb (K:PySem.W.Frag)(H:Hp):Bool->Addr->List V->Prop
 |true,a,xs=>dq K H a xs
 |false,a,xs=>eD K H a xs
def jI:D->Bool
 |.tup _=>false
 |_=>true
def eE:D->Bool
 |.tup _=>true
 |.lst _=>true
 |.frz _=>true
 |.cell _=>true
 |_=>false
theorem lZ {X:Cx}{pins:List (Addr×Obj)}{σ:L2.St}{H:Hp}{s:Shared}{b:Bool}{a:Addr}{xs:List V}(I:Inv X pins σ H s)(h:pb X.K H b a xs):∃its:List Value,Vals xs its/\cj b s.heap a its.toArray:=by
 cases b with
 |true=>obtain ⟨its,r,p,_⟩:=I.list h;exact ⟨its,r,p.isList⟩
 |false=>obtain ⟨its,r,p,_⟩:=I.tuple h;exact ⟨its,r,p⟩
theorem uI {X:Cx}{pins:List (Addr×Obj)}{σ:L2.St}{H:Hp}{s:Shared}{b:Bool}{a:Addr}{xs ys:List V}(I:Inv X pins σ H s)(h:pb X.K H b a xs)(h':pb X.K H b a ys):xs=ys:=by
 cases b with
 |true=>exact I.list_inj h h'
 |false=>exact I.tuple_inj h h'
theorem pG {fa:Fa}{X:Cx}{μ:Mu}{H:Hp}{M:Mem}{d:D}{a:Addr}{ds:List D}(hM:RelM fa X.K μ H M)(h:Rep fa X.K μ H d (.ref a))(e:cL M d=some ds):∃vs,pb X.K H (jI d) a vs/\a9 fa X.K μ H ds vs:=by
 cases d with
 |tup xs=>cases e;obtain ⟨a',vs,e,s,r⟩:=h;cases e;exact ⟨vs,s,r⟩
 |lst xs=>obtain ⟨a',vs,e',s,r⟩:=cf hM h (show gD M (.lst xs)=some ds from e);cases e';exact ⟨vs,s,r⟩
 |frz xs=>obtain ⟨a',vs,e',s,r⟩:=cf hM h (show gD M (.frz xs)=some ds from e);cases e';exact ⟨vs,s,r⟩
 |cell k=>obtain ⟨a',vs,e',s,r⟩:=cf hM h (show gD M (.cell k)=some ds from e);cases e';exact ⟨vs,s,r⟩
 |_=>cases e
theorem uH {fa:Fa}{X:Cx}{pins:List (Addr×Obj)}{σ:L2.St}{μ:Mu}{H:Hp}{s:Shared}{M:Mem}{d:D}{v:V}(I:Inv X pins σ H s)(hM:RelM fa X.K μ H M)(h:Rep fa X.K μ H d v)(e:eE d=true):∃(a:Nat) (its:Array Value),v=.ref a/\cj (jI d) s.heap a its:=by
 have key:∀ds,cL M d=some ds->∃(a:Nat) (its:Array Value),v=.ref a/\cj (jI d) s.heap a its:=fun ds z=>by
  obtain ⟨a,vs,rfl,_,_⟩:=kN hM h z
  obtain ⟨vs,s1,_⟩:=pG hM h z
  obtain ⟨its,_,p⟩:=lZ I s1
  exact ⟨a,its.toArray,rfl,p⟩
 cases d with
 |tup xs=>exact key xs rfl
 |lst xs=>exact key xs rfl
 |frz xs=>exact key xs rfl
 | cell k =>
   obtain ⟨a,e,hk⟩:=id h
   obtain ⟨ds,_,z,_⟩:=hM.mu_lt hk
   exact key ds z
 |_=>cases e
theorem cj.lt {b:Bool}{h:Heap}{a:Addr}{its:Array Value}(x:cj b h a its):a<h.objs.size:=by
 cases b<;>(obtain ⟨o,ho,r⟩:=x;exact tqd ho)
theorem cj.push {b:Bool}{h:Heap}{a:Addr}{its:Array Value}(x:cj b h a its)(ob:Obj):cj b (h.push ob) a its:=by
 cases b<;>(obtain ⟨o,ho,r⟩:=x;exact ⟨o,tqc _ ho,r⟩)
def t8 (b:Bool)(a:Addr):Obj:={cls:=.type (if b then "list_iterator" else "tuple_iterator"),data:=.fields #[.ref a,.int 0 0]}
theorem c8.new {b:Bool}{h:Heap}{it a:Addr}(e:h.get? it=some (t8 b a)):c8 b h it a 0:=by
 cases b<;>exact ⟨_,e,rfl,rfl⟩
theorem qp {prog:Program}{w:World}{A:Around}{E:Value->Shared->Prop}{s:Shared}{b:Bool}{a:Addr}{its:Array Value}{Q:Value->Shared->Prop}(h:cj b s.heap a its)(hQ:Q (.ref s.heap.objs.size) {s with heap:=s.heap.push (t8 b a)}):wpAny (model prog w) A (pyIter (.ref a)) Q E s:=by
 cases b with
 |true=>exact wpAny_pyIter_list h hQ
 |false=>exact wpAny_pyIter_tuple h hQ
def IH (K:PySem.W.Frag)(b0:Bool)(a0:Nat)(b1:Bool)(a1:Nat):It:=
 ⟨fun i H => (∃ xs x, pb K H b0 a0 xs /\ xs[i]? = some x) /\ (∃ xs x, pb K H b1 a1 xs /\ xs[i]? = some x),
  fun i H v H'=>∃p x0 x1,H p=none/\v=.ref p/\H'=upd H p (.tup [x0,x1])/\(∀xs,pb K H b0 a0 xs->xs[i]?=some x0)/\(∀xs,pb K H b1 a1 xs->xs[i]?=some x1),
  fun i H=>∃xs0 xs1,pb K H b0 a0 xs0/\pb K H b1 a1 xs1/\(xs0.length<=i\/xs1.length<=i)⟩
def n6 (n:Nat)(b0:Bool)(a0:Nat)(b1:Bool)(a1:Nat)(i:Nat)(h:Heap)(f0:Value):Prop:=IsZip h (n+4) (n+2) (n+3) f0/\h.get? (n+2)=some {cls:=.type "tuple",data:=.seq #[.ref n,.ref (n+1)]}/\(∃u0 u1,h.get? (n+3)=some {cls:=.type "tuple",data:=.seq #[u0,u1]})/\c8 b0 h n a0 i/\c8 b1 h (n+1) a1 i
theorem n6.keep {n i:Nat}{a0 a1:Nat}{b0 b1:Bool}{h h':Heap}{f0:Value}(x:n6 n b0 a0 b1 a1 i h f0)(k:∀b∈[(n+4),n,(n+1),(n+2),(n+3)],∀o,h.get? b=some o->h'.get? b=some o):n6 n b0 a0 b1 a1 i h' f0:=by
 obtain ⟨h1,h2,⟨u0,u1,h3⟩,j0,j1⟩:=x
 exact ⟨k _ (by simp) _ h1,k _ (by simp) _ h2,⟨u0,u1,k _ (by simp) _ h3⟩,j0.at fun o e=>k _ (by simp) o e,j1.at fun o e=>k _ (by simp) o e⟩
theorem yI {P:Program}{w:World}{K:PySem.W.Frag}{elts:List Expr}{kk:Nat}{pos:Pos}(n:Nat)(b0:Bool)(a0:Nat)(b1:Bool)(a1:Nat)(hn:a0<n/\a1<n) :
 Turn P w K (.Tuple elts kk pos) (IH K b0 a0 b1 a1) [(n+4),n,(n+1),(n+2),(n+3)] (n+4) (fun i h=>n6 n b0 a0 b1 a1 i h .none) where
 mem:=by simp
 obj:=fun i h ⟨h1,h2,⟨u0,u1,h3⟩,j0,j1⟩ b hb=>by
  simp only [List.mem_cons,List.not_mem_nil,or_false] at hb
  rcases hb with z|z|z|z|z
  ·subst z;exact ⟨_,h1,fun v z=>by cases z⟩
  ·subst z;exact j0.obj
  ·subst z;exact j1.obj
  ·subst z;exact ⟨_,h2,fun v z=>by cases z⟩
  ·subst z;exact ⟨_,h3,fun v z=>by cases z⟩
 keep:=fun i h h' st k=>st.keep k
 item:=by
  intro X hP hw hK hc i pins s σ H E I hf st hg
  subst hP hw hK
  obtain ⟨⟨xs0,x0,hq0,hx0⟩,⟨xs1,x1,hq1,hx1⟩⟩:=hg
  obtain ⟨h1,h2,⟨u0,u1,h3⟩,j0,j1⟩:=st
  obtain ⟨its0,rv0,p0⟩:=lZ I hq0
  obtain ⟨w0,hw0,rw0⟩:=rv0.get hx0
  obtain ⟨its1,rv1,p1⟩:=lZ I hq1
  obtain ⟨w1,hw1,rw1⟩:=rv1.get hx1
  have hT:s.TypeIs (.ref (n+4)) "zip":=⟨_,h1,rfl⟩
  unfold pyNext
  refine tqa (wpAny_attempt (wpAny_callSpecial?_slot (name:=Str.ofString "__next__") hT F.slot_zip_next
   (wpAny_call_entry F.slot_zip_next hT F.entry_zip_next
    (yy (E:=_) hn h1 h2 h3 j0 j1 p0 p1 (x0:=w0) (by simpa using hw0) (x1:=w1) (by simpa using hw1) fun h4 z1 z2 g0 g1 hTT hsz hk=>tqb ⟨_,rfl,?_⟩) (F.args_zip_next_1 _))))
  have hT0:H s.heap.objs.size=none:=I.hok.fresh (tqg _)
  have zlt:(n+4)<s.heap.objs.size:=tqd h1
  refine wpAny_letOwnedTupleGo_zip (s:={s with heap:=h4}) z1 fun h5 hz5 hs5=>?_
  have hT5:h5.get? s.heap.objs.size=some {cls:=.type "tuple",data:=.seq #[w0,w1]}:=(hs5.2 _ (Nat.ne_of_gt zlt)).trans hTT
  refine ⟨.ref s.heap.objs.size,upd H s.heap.objs.size (.tup [x0,x1]),sv (s:=s) (t':=s.toks) I hf (fun b o hb q=>(hs5.2 b (fun z=>hb (by rw [z];simp))).trans (hk b o (fun z=>hb (by simp only [List.mem_cons,List.not_mem_nil,or_false] at z ⊢;rcases z with z|z|z|z<;>simp [z])) q)) (tqg _) ⟨?_,[w0,w1],.cons rw0 (.cons rw1 (.nil)),⟨_,hT5,rfl,_,rfl⟩⟩,rfl,
   ⟨_,x0,x1,hT0,rfl,rfl,fun ys hy=>by rw [uI I hy hq0];exact hx0,fun ys hy=>by rw [uI I hy hq1];exact hx1⟩,⟨hz5,hs5.extBut _ _ (bY (by omega)) (hk _ _ (by simp) h2),⟨w0,w1,hs5.extBut _ _ (bY (by omega)) z2⟩,g0.extBut hs5.extBut (bY (by omega)),g1.extBut hs5.extBut (bY (by omega))⟩,fun b hb=>?_⟩
  ·show 2<=sizeLine;decide
  ·have:b<s.heap.objs.size:=by
    have zl:(n+4)<s.heap.objs.size:=zlt
    simp only [List.mem_cons,List.not_mem_nil,or_false] at hb
    rcases hb with z|z|z|z|z<;>(rw [z];(first|exact zl|exact Nat.lt_trans (by omega) zl))
   rw [aX (tqk this)];exact (hf b hb).1
 done:=by
  intro X hP hw hK hc i pins s σ H E I hf st hg
  subst hP hw hK
  obtain ⟨xs0,xs1,hq0,hq1,hend⟩:=hg
  obtain ⟨h1,h2,⟨u0,u1,h3⟩,j0,j1⟩:=st
  obtain ⟨its0,rv0,p0⟩:=lZ I hq0
  have hl0:=rv0.length
  obtain ⟨its1,rv1,p1⟩:=lZ I hq1
  have hl1:=rv1.length
  have hT:s.TypeIs (.ref (n+4)) "zip":=⟨_,h1,rfl⟩
  unfold pyNext
  refine tqa (wpAny_attempt (wpAny_callSpecial?_slot (name:=Str.ofString "__next__") hT F.slot_zip_next
   (wpAny_call_entry F.slot_zip_next hT F.entry_zip_next (Ap (I.ok.hd hc) hn h1 h2 h3 j0 j1 p0 p1 (by
    rcases hend with z|z
    ·exact .inl (by simp;omega)
    ·exact .inr (by simp;omega)
    ) fun h' e hk he=>?_) (F.args_zip_next_1 _))))
  obtain ⟨o,ho,hcl⟩:=he
  refine tqa (wpAny_isInstance (T:="StopIteration") (b:=true) ⟨o,ho,hcl⟩ isSubtype_stop ?_)
  exact tqb ⟨rfl,vW (s:=s) I hf (t':=s.toks) fun b o hb q=>hk b o (fun z=>hb (by simp only [List.mem_cons,List.not_mem_nil,or_false] at z ⊢;rcases z with z|z|z|z<;>simp [z])) q⟩
 self:=fun _ _ _ _ _ st h=>wpAny_pyIter_zip st.1 h
abbrev pY (h:Heap)(b0:Bool)(a0:Nat)(b1:Bool)(a1:Nat):Heap:=h.push (t8 b0 a0)
abbrev tS (h:Heap)(b0:Bool)(a0:Nat)(b1:Bool)(a1:Nat):Heap:=(pY h b0 a0 b1 a1).push (t8 b1 a1)
abbrev tR (h:Heap)(b0:Bool)(a0:Nat)(b1:Bool)(a1:Nat):Heap:=(tS h b0 a0 b1 a1).push {cls:=.type "tuple",data:=.seq #[.ref h.objs.size,.ref (pY h b0 a0 b1 a1).objs.size]}
abbrev tQ (h:Heap)(b0:Bool)(a0:Nat)(b1:Bool)(a1:Nat):Heap:=(tR h b0 a0 b1 a1).push {cls:=.type "tuple",data:=.seq #[.none,.none]}
abbrev mw (h:Heap)(b0:Bool)(a0:Nat)(b1:Bool)(a1:Nat):Heap:=(tQ h b0 a0 b1 a1).push {cls:=.type "zip",data:=.fields #[.none,.bool false,.bool false,.ref (tS h b0 a0 b1 a1).objs.size,.ref (tR h b0 a0 b1 a1).objs.size]}
theorem xJ (b0:Bool)(a0:Nat)(b1:Bool)(a1:Nat)(xs0 xs1:Array Value) :
 Meets (Builtin.«zip.__new__» ⟨[.type "zip",.ref a0,.ref a1],[]⟩) (fun _ R s=>cj b0 s.heap a0 xs0/\cj b1 s.heap a1 xs1/\
  R (.ok (.ret (.ref (tQ s.heap b0 a0 b1 a1).objs.size))) {s with heap:=mw s.heap b0 a0 b1 a1}):=
 .of_wp fun prog w A R s h=>by
  obtain ⟨hp,g,d,tk,os⟩:=s;obtain ⟨q0,q1,h⟩:=h
  have hsub:=sub_zip
  have L0:cj b0 (Shared.heap ⟨hp,g,d,tk,os⟩) a0 xs0:=q0
  have L1:cj b1 (Shared.heap ⟨(pY hp b0 a0 b1 a1),g,d,tk,os⟩) a1 xs1:=(q1).push _
  wp_walk using qp L0,qp L1
  exact ⟨_,rfl,h⟩
theorem Ak {prog:Program}{w:World}{A:Around}{E:Value->Shared->Prop}{s:Shared}{a0 a1:Nat}{b0 b1:Bool}{xs0 xs1:Array Value}{Q:Value->Shared->Prop}(q0:cj b0 s.heap a0 xs0)(q1:cj b1 s.heap a1 xs1)
 (h:∀h',n6 s.heap.objs.size b0 a0 b1 a1 0 h' .none->(∀c o,s.heap.get? c=some o->h'.get? c=some o)->Q (.ref (s.heap.objs.size+4)) {s with heap:=h'}) :
 wpAny (model prog w) A (call (.type "zip") [.ref a0,.ref a1]) Q E s:=by
 refine callType_new F.called_zip (by decide) (F.typeCall_zip_2 _ _) (F.newCall_zip_2 _ _) (fun obj=>F.args_object_init_3 obj _ _) F.entry_zip_new (xJ b0 a0 b1 a1 xs0 xs1) ⟨q0,q1,?_⟩
 have z1:(pY s.heap b0 a0 b1 a1).objs.size=s.heap.objs.size+1:=by rw [Heap.size_push]
 have z2:(tS s.heap b0 a0 b1 a1).objs.size=s.heap.objs.size+2:=by rw [Heap.size_push,z1]
 have z3:(tR s.heap b0 a0 b1 a1).objs.size=s.heap.objs.size+3:=by rw [Heap.size_push,z2]
 have z4:(tQ s.heap b0 a0 b1 a1).objs.size=s.heap.objs.size+4:=by rw [Heap.size_push,z3]
 have z5:(mw s.heap b0 a0 b1 a1).objs.size=s.heap.objs.size+5:=by rw [Heap.size_push,z4]
 have g1:(mw s.heap b0 a0 b1 a1).get? s.heap.objs.size=some _:=tqc _ (tqc _ (tqc _ (tqc _ (tqe _ rfl))))
 have g2:(mw s.heap b0 a0 b1 a1).get? (pY s.heap b0 a0 b1 a1).objs.size=some _:=tqc _ (tqc _ (tqc _ (tqe _ rfl)))
 have g3:(mw s.heap b0 a0 b1 a1).get? (tS s.heap b0 a0 b1 a1).objs.size=some _:=tqc _ (tqc _ (tqe _ rfl))
 have g4:(mw s.heap b0 a0 b1 a1).get? (tR s.heap b0 a0 b1 a1).objs.size=some _:=tqc _ (tqe _ rfl)
 have g5:(mw s.heap b0 a0 b1 a1).get? (tQ s.heap b0 a0 b1 a1).objs.size=some _:=tqe _ rfl
 show _/\_
 rw [z1] at g2
 rw [z2] at g3
 rw [z3] at g4
 rw [z4] at g5
 rw [z1] at g3
 rw [z2,z3] at g5
 rw [z4]
 exact ⟨⟨_,g5,rfl⟩,h _ ⟨g5,g3,⟨_,_,g4⟩,c8.new g1,c8.new g2⟩ fun c o x=>tqc _ (tqc _ (tqc _ (tqc _ (tqc _ (x)))))⟩
def oi (d0 d1:D):Walk:=fun M=>(cL M d0).bind fun y0=>(cL M d1).map fun y1=>j4 y0 y1
def oB (g0 g1:Env->Mem->Res D):Env->Mem->Res Walk:=fun Z M=>(g0 Z M).bind fun d0 M=>(g1 Z M).bind fun d1 M=>if eE d0&&eE d1 then .ok (oi d0 d1) M else .bad
theorem ug:∀(y0 y1:List D) (i:Nat) (d:D),(j4 y0 y1)[i]?=some d↔∃e0 e1,y0[i]?=some e0/\y1[i]?=some e1/\d=.tup [e0,e1]
 |c0::t0,c1::t1,0,d=>by simp [j4,eq_comm]
 | c0 :: t0, c1 :: t1, i + 1, d => by
   have:=ug t0 t1 i d
   simpa [j4] using this
 |[],_,i,d=>by simp [j4]
 |_::_,[],i,d=>by simp [j4]
theorem uf:∀(y0 y1:List D) (i:Nat),(j4 y0 y1).length<=i->y0.length<=i\/y1.length<=i
 |c0::t0,c1::t1,0,h=>by simp [j4] at h
 | c0 :: t0, c1 :: t1, i + 1, h => by
   have:=uf t0 t1 i (by simpa [j4] using h)
   simpa using this
 |[],_,i,h=>by simp
 |_::_,[],i,h=>by simp
theorem yD {fa:Fa}{X:Cx}{μ0:Mu}{H0:Hp}{d0 d1:D}{a0 a1:Nat}(r0:Rep fa X.K μ0 H0 d0 (.ref a0))(r1:Rep fa X.K μ0 H0 d1 (.ref a1)):fj fa X.K μ0 H0 (oi d0 d1) (IH X.K (jI d0) a0 (jI d1) a1):=fun μ H M ds x hM e=>by
 unfold oi at e
 cases s0:cL M d0 with
 |none=>simp [s0] at e
 |some y0=>
 cases s1:cL M d1 with
 |none=>simp [s0,s1] at e
 |some y1=>
 simp only [s0,s1,Option.bind_some,Option.map_some,Option.some.injEq] at e
 subst e
 obtain ⟨v0,q0,l0⟩:=pG hM (Rep.extW x r0) s0
 obtain ⟨v1,q1,l1⟩:=pG hM (Rep.extW x r1) s1
 refine ⟨fun i d hd=>?_,fun i hi=>⟨v0,v1,q0,q1,?_⟩⟩
 ·obtain ⟨e0,e1,h0,h1,rfl⟩:=(ug y0 y1 i d).mp hd
  obtain ⟨w0,hw0,rw0⟩:=l0.get h0
  obtain ⟨w1,hw1,rw1⟩:=l1.get h1
  refine ⟨⟨⟨v0,w0,q0,hw0⟩,⟨v1,w1,q1,hw1⟩⟩,fun y H' ⟨p,x0,x1,hp,ey,eH,t0,t1⟩=>?_⟩
  have z0:=t0 v0 q0
  rw [hw0] at z0;cases z0
  have z1:=t1 v1 q1
  rw [hw1] at z1;cases z1
  subst eH ey
  exact ⟨Ext.alloc hM hp,hM.alloc hp,p,[w0,w1],rfl,.inl (.inl cn),⟨w0,[w1],rfl,rw0.ext (Ext.alloc hM hp),⟨w1,[],rfl,rw1.ext (Ext.alloc hM hp),rfl⟩⟩⟩
 ·rcases uf y0 y1 i hi with z|z
  ·exact .inl (by rw [l0.length];exact z)
  ·exact .inr (by rw [l1.length];exact z)
theorem EK {fa:Fa}{X:Cx}{elts:List Expr}{kk:Nat}{tp p pos:Pos}{e0 e1:Expr}{g0 g1:Env->Mem->Res D}(h0:DE fa X e0 g0)(h1:DE fa X e1 g1)(hg:Gl X "zip")(hm:X.mg "zip"=none)
 (hs0:starEach [e0,e1] X.env=[(false,eval e0 X.env),(false,eval e1 X.env)]) (hs1:starEach [e1] X.env=[(false,eval e1 X.env)]):DI fa X (.Tuple elts kk tp) (.Call (.Name "zip" p) [e0,e1] [] pos) (oB g0 g1):=by
 intro pins s σ H R I ⟨μ,Z,M,hE,hM,h⟩
 obtain ⟨d0,M0,c0,t0⟩:=bp h
 obtain ⟨d1,M1,c1,t1⟩:=bp t0
 split at t1
 ·next hsq=>
  simp only [Bool.and_eq_true] at hsq
  obtain ⟨hq0,hq1⟩:=hsq
  refine Call_ (jU I hg hm boot_zip (PyProof.Rows.callWith_type1 (bx (cN h0 (cN h1 fb hs1) (by rw [hs0,hs1]) pos pins s σ H (fun vs H1=>∃v0 v1 μ1,vs=[v0,v1]/\Ext μ H μ1 H1/\RelM fa X.K μ1 H1 M1/\Rep fa X.K μ1 H1 d0 v0/\Rep fa X.K μ1 H1 d1 v1) I ?_) fun us s1 ⟨vs,H1,I1,r1,v0,v1,μ1,ev,x1,m1,rv0,rv1⟩=>?_) (by rw [hs0,hs1]) (by rw [hs1];rfl)))
  ·refine ⟨μ,Z,M,hE,hM,?_⟩
   rw [c0]
   intro v0 H1 μ1 x1 m1 r0
   refine ⟨μ1,Z,M0,(hE.ext x1),m1,?_⟩
   rw [c1]
   intro v1 H2 μ2 x2 m2 r1
   exact ⟨v0,v1,μ2,rfl,(x1.trans x2),m2,(r0.ext x2),r1⟩
  subst ev
  obtain ⟨a0,its0,rfl,z0⟩:=uH I1 m1 rv0 hq0
  obtain ⟨a1,its1,rfl,z1⟩:=uH I1 m1 rv1 hq1
  cases r1 with
  | cons y0 r1 =>
    cases r1 with
    | cons y1 r1 =>
      cases r1
      obtain rfl:=y0
      obtain rfl:=y1
      refine Ak z0 z1 fun h1 za hk=>?_
      have I2:Inv X pins σ H1 {s1 with heap:=h1}:=I1.kept (t':=s1.toks) hk
      refine wpAny_pyIter_zip (s:={s1 with heap:=h1}) za.1 ?_
      refine ⟨s1.heap.objs.size+4,[s1.heap.objs.size+4,s1.heap.objs.size,s1.heap.objs.size+1,s1.heap.objs.size+2,s1.heap.objs.size+3],_,_,H1,rfl,I2,yI s1.heap.objs.size (jI d0) a0 (jI d1) a1 ⟨z0.lt,z1.lt⟩,za,fun b hb=>?_,t1 _ H1 μ1 x1 m1 (yD rv0 rv1)⟩
      have hb:s1.heap.objs.size<=b:=by
       simp only [List.mem_cons,List.not_mem_nil,or_false] at hb
       rcases hb with z|z|z|z|z<;>(rw [z];first|exact tqg _|exact Nat.le_add_right _ _)
      exact I1.fpOk hb (I1.hok.fresh hb)
 ·exact t1.elim
def Cs (d0 d1 d2:D):Walk:=fun M=>(cL M d0).bind fun y0=>(cL M d1).bind fun y1=>(cL M d2).map fun y2=>Ct y0 y1 y2
def yc (g0 g1 g2:Env->Mem->Res D):Env->Mem->Res Walk:=fun Z M=>(g0 Z M).bind fun d0 M=>(g1 Z M).bind fun d1 M=>(g2 Z M).bind fun d2 M=>if eE d0&&eE d1&&eE d2 then .ok (Cs d0 d1 d2) M else .bad
end LD
namespace LD
open PySem PySem.Spec PyProof.Rows L2
abbrev GE:=Env->Mem->Res D
abbrev GT:=Env->Mem->Res Bool
abbrev GA:=Env->Mem->Res (List D)
abbrev GW:=Env->Mem->Res Walk
abbrev GS:=Env->Mem->Res Fl
abbrev GB:=Env->List D->Mem->Res (List D)
abbrev Call:=Nat->List D->Mem->Res D
def af (i:Nat):GE:=fun Z M=>dg M (Z[i]?.getD none)
def gC (d:D):GE:=fun _ M=>.ok d M
def aA (m:Bool)(o:ph)(a b:GE):GE:=fun Z M=>(a Z M).bind fun x M=>(b Z M).bind fun y M=>fH m o x y M
def aW (o:iM)(a b:GE):GE:=fun Z M=>(a Z M).bind fun x M=>(b Z M).bind fun y M=>(dg M (bU o x y M)).bind fun b M=>.ok (.bl b) M
def lS (o o':iM)(a b c:GE):GE:=fun Z M=>(a Z M).bind fun x M=>(b Z M).bind fun y M=>(dg M (bU o x y M)).bind fun k M=>
 if k then (c Z M).bind fun z M=>(dg M (bU o' y z M)).bind fun b M=>.ok (.bl b) M else .ok (.bl false) M
def fT (a:GE):GE:=fun Z M=>(a Z M).bind fun x M=>match x with|.int i=>.ok (.int (-i)) M|_=>.bad
def eT (a b:GE):GE:=fun Z M=>(a Z M).bind fun x M=>match x with|.bl true=>b Z M|.bl false=>.ok (.bl false) M|_=>.bad
def HR (a:GE):GE:=fun Z M=>(a Z M).bind fun x M=>match x with|.bl k=>.ok (.bl (!k)) M|_=>.bad
def ic (t:GT)(a b:GE):GE:=fun Z M=>(t Z M).bind fun k M=>if k then a Z M else b Z M
def aQ (a b:GE):GE:=fun Z M=>(a Z M).bind fun x M=>(b Z M).bind fun y M=>dg M (fo x y M)
def cY (m hl hh:Bool)(a lo hi:GE):GE:=fun Z M=>(a Z M).bind fun x M=>(lo Z M).bind fun l M=>(hi Z M).bind fun h M=>if cy hl l&&cy hh h then eK m x l h M else .bad
def aj:GA:=fun _ M=>.ok [] M
def aa (a:GE)(s:GA):GA:=fun Z M=>(a Z M).bind fun x M=>(s Z M).bind fun xs M=>.ok (x::xs) M
def bh (s:GA):GE:=fun Z M=>(s Z M).bind mM
def ba (m:Bool)(s:GA):GE:=fun Z M=>(s Z M).bind (bQ m)
def ax (f:Nat)(c:Call)(s:GA):GE:=fun Z M=>(s Z M).bind fun ds M=>c f ds M
def nS (i:Nat)(c:Call)(s:GA):GE:=fun Z M=>match Z[i]?.getD none with|some (.fn f)=>(s Z M).bind fun ds M=>c f ds M|_=>.bad
def bD (f:vH)(s:GA):GE:=fun Z M=>(s Z M).bind fun ds M=>gM f ds M
def cb (t:Ty)(a:GE):GE:=fun Z M=>(a Z M).bind fun x M=>(dg M (bZ t x)).bind fun b M=>.ok (.bl b) M
def aG (a:GE):GT:=fun Z M=>(a Z M).bind fun x M=>dg M (lN M x)
def ia (a b:GT):GT:=fun Z M=>(a Z M).bind fun k M=>if k then b Z M else .ok false M
def eJ (a b:GT):GT:=fun Z M=>(a Z M).bind fun k M=>if k then .ok true M else b Z M
def bT (a:GT):GT:=fun Z M=>(a Z M).bind fun k M=>.ok (!k) M
def aP (t:dN)(a:GE):GS:=fun Z M=>(a Z M).bind fun x M=>(dg M (dw t x Z)).bind fun ρ1 M=>.ok (.next ρ1) M
def dW (a b d:GE):GS:=fun Z M=>(d Z M).bind fun z M=>(a Z M).bind fun x M=>(b Z M).bind fun y M=>match x,y with
 | .cell k, .int n => match M[k]? with
   | some ds => match bR ds.length n with
     |some j=>.ok (.next Z) (M.set k (ds.set j z))
     |none=>.bad
   |none=>.bad
 |_,_=>.bad
def iH (a d:GE):GS:=fun Z M=>(a Z M).bind fun x M=>(d Z M).bind fun z M=>match x with
 | .cell k => match M[k]? with
   |some ds=>if ds.length<sz then .ok (.next Z) (M.set k (ds++[z])) else .bad
   |none=>.bad
 |_=>.bad
def aY (a:GE):GS:=fun Z M=>(a Z M).bind fun x M=>.ok (.ret x) M
def Ja:GS:=fun _ M=>.ok (.ret .non) M
def Jb:GS:=fun Z M=>.ok (.next Z) M
def K1:GS:=fun _ _=>.bad
def aZ (c:GT)(a b:GS):GS:=fun Z M=>(c Z M).bind fun k M=>if k then a Z M else b Z M
def eQ (t:dN)(w:GW)(b:GS):GS:=fun Z M=>(w Z M).bind fun w M=>d3 (iQ t b) w (.next Z) M
def av:GS:=fun Z M=>.ok (.next Z) M
noncomputable def ah (a b:GS):GS:=fun Z M=>(a Z M).bind fun fl M=>match fl with
 |.next Z=>b Z M
 |fl=>.ok fl M
def notStar:Expr->Bool
 |.Starred _ _=>false
 |_=>true
theorem cK {a:Expr}{es:List Expr}{env:PySem.Env}(h:notStar a=true):starEach (a::es) env=(false,eval a env)::starEach es env:=by
 cases a<;>first|rfl|cases h
theorem ee {pos:Pos}{env:PySem.Env}:∀{es:List Expr},es.all notStar=true->(backTo pos (starEach es env)).any (·.1)=false
 |[],_=>rfl
 | a :: es, h => by
   simp only [List.all_cons,Bool.and_eq_true] at h
   have ih:=ee (pos:=pos) (env:=env) h.2
   rw [cK h.1]
   simpa [backTo] using ih
section
variable {fa:Fa}{X:Cx}{a b d:Expr}{ga gb gd:GE}{ta tb:GT}{pos p:Pos}{es:List Expr}{gs:GA}{n:Nat}
theorem FK {x:Str}{i:Int}{t:Tok}(hg:Gl X x)(hm:X.mg x=some (.int i t))(hd:(x==("__debug__":Str))=false):DE fa X (.Name x pos) (gC (.int i)):=mj (v:=.int i) (l7 hg hm ⟨t,rfl⟩ hd) fun _ _=>rfl
theorem uL (m:Bool){i:Nat}{y:Str}{py spos:Pos}{elt tg iter:Expr}{ifs:List Expr}{rest:List Comprehension}{scope:Scope}{own bn:List Str}{t:dN}{W:List Nat}{body:Addr->PySem.Env->Sem Unit}{gw:GW}{g:GB}
 (S:fN X own bn scope) (hcalm:X.calm=true) (hi:DI fa X tg iter gw) (B:Block fa X own bn scope tg t W body g) (hT:qU X elt tg iter ifs rest scope pos body) (hW:∀i∈W,i∉slots t) (hn:∀i∈slots t++W,i<own.length)
 (hs:∀x,foldedSetIterable iter X.env x=pure x) (hN:X.N.Nodup) (hy:X.N[i]?=some y) (hl:X.env.scope.names.lookup y=some .local)
 (hsw:swapsWith (.ListComp elt (⟨tg,iter,ifs,0⟩::rest) scope pos) (some (.Name y py)) spos.line X.env=pure true) :
 DS fa X (.Assign [.Name y py] (.ListComp elt (⟨tg,iter,ifs,0⟩::rest) scope pos) spos) (aP (.one i) (cv m own.length t gw g)):=yk m S hcalm hi B hT hW hn hs hN hy hl hsw
end
structure Df where
 params:Nat
 slots:Nat
 body:Call->GS
def Md:Fl->Mem->Res D
 |.ret d,M=>.ok d M
 |.next _,M=>.ok .non M
 |.exc x _,M=>.err x M
def Mc:Res Fl->Res D
 |.ok fl M=>Md fl M
 |_=>.bad
def iI (c:Call)(d:Df)(ds:List D)(M:Mem):Res D:=if ds.length=d.params then Mc (d.body c (ds.map some++List.replicate (d.slots-ds.length) none) M) else .bad
def aw (P:Nat->Option Df):Nat->Call
 |0,_,_,_=>.bad
 | n + 1, f, ds, M => match P f with
   |none=>.bad
   |some d=>iI (aw P n) d ds M
structure ue (fa:Fa) (P:Program) (w:World) (K:PySem.W.Frag) (mg:Str->Option Value) (base:Heap) (f:Nat) (d:Df):Prop where
 ex:∃(ad:Addr) (fd:FuncData) (ps N:List Str) (st:Stmt) (x qual:Str),fa f=some ad/\pd K x qual st ad fd/\Binds K fd ps []/\hV N ps (aV st)/\d.params=ps.length/\d.slots=N.length/\
  ∀(call:Call) (n:Nat) (cdv:Value) (A:Around) (outer:List PySem.Env) (s:Shared) (H:Hp) (E:XK),(∀f,ir fa P w K mg base n f (call f))->cC (n+4) (A.deeper (envOfC qual (aV st) s.heap.objs.size ad cdv))->
   iq fa (gx (iN P w) P w K mg base N qual (aV st) ad cdv A outer s H E) (dH st) (d.body call)
theorem yQ {fa:Fa}{K:PySem.W.Frag}{μ:Mu}{H:Hp}{N:List Str}{ds:List D}{vs:List V}(h:a9 fa K μ H ds vs):bK fa K μ H (L2.start N vs) (ds.map some++List.replicate (N.length-ds.length) none):=by
 have hl:=h.length
 refine ⟨by unfold L2.start;simp [hl],fun i d e=>?_⟩
 by_cases hi:i<ds.length
 ·rw [List.getElem?_append_left (by simpa using hi),List.getElem?_map] at e
  cases e1:ds[i]? with
  |none=>rw [e1] at e;cases e
  | some d' =>
    rw [e1] at e
    cases e
    obtain ⟨v,hv,rv⟩:=h.get e1
    refine ⟨v,?_,rv⟩
    unfold L2.start
    rw [List.getElem?_append_left (by simp;omega),List.getElem?_map,hv]
    rfl
 ·rw [List.getElem?_append_right (by simp;omega),List.getElem?_replicate] at e
  split at e<;>cases e
theorem rV {P:Program}{w:World}{K:PySem.W.Frag}{mg:Str->Option Value}{base:Heap}{x qual:Str}{st:Stmt}{f:Addr}{fd:FuncData}{N ps:List Str}{k:Nat}{sp:Sp}(F:pd K x qual st f fd)(S:hV N ps (aV st))(len:∀vs H Q E,sp vs H Q E->vs.length=ps.length)
 (hbody:∀(cdv:Value) (A:Around) (outer:List PySem.Env) (s:Shared) (H:Hp) (vs:List V) (Q:VK) (E:XK),cC k (A.deeper (envOfC qual (aV st) s.heap.objs.size f cdv))->sp vs H Q E->
  ∃t,n8 (gx (iN P w) P w K mg base N qual (aV st) f cdv A outer s H E) (dH st) t/\t {nx:=fun _ H'=>Q .non H',rt:=Q} (start N vs) H):lV P w K mg base (iN P w) (k+1) f fd ps sp:=by
 obtain ⟨oc,od,kV,doc,pm,an,cdv,ct,osl,rfl,lk,hcd⟩:=F.ex
 exact JE lk hcd S len fun A outer s H vs Q E hr hsp=>hbody cdv A outer s H vs Q E hr hsp
theorem td {fa:Fa}{P:Program}{w:World}{K:PySem.W.Frag}{mg:Str->Option Value}{base:Heap}{N:List Str}{qual:Str}{scope:Scope}{f:Addr}{cd:Value}{A:Around}{outer:List PySem.Env}{s:Shared}{H:Hp}{E:XK}{Q:VK}{d:Df}{c:Call}{ds:List D}{vs:List V}{μ:Mu}{M:Mem}
 (hs:d.slots=N.length) (hM:RelM fa K μ H M) (hr:a9 fa K μ H ds vs) (hq:lA (iI c d ds M) (bJ fa K μ H Q) (yv fa K μ H E)):tF fa (gx (iN P w) P w K mg base N qual scope f cd A outer s H E) (d.body c) {nx:=fun _ H'=>Q .non H',rt:=Q} (start N vs) H:=by
 unfold iI at hq
 split at hq
 ·refine ⟨μ,_,M,yQ hr,hM,?_⟩
  rw [<- hs]
  cases e1:d.body c (ds.map some++List.replicate (d.slots-ds.length) none) M with
  | ok fl M1 =>
    rw [e1] at hq
    cases fl with
    | next ρ' =>
      have q1:bJ fa K μ H Q .non M1:=hq
      exact fun σ' H' μ' x' e' m'=>q1 .non H' μ' x' m' rfl
    |ret d=>exact hq
    | exc x ρ' =>
      have q1:yv fa K μ H E x M1:=hq
      exact fun pins σ' H' μ' s' a C dx c p I y _ m ex hc hn fl=>BN I fl (q1 C dx c p H' μ' y m ex hc hn)
  |err=>rw [e1] at hq;exact hq.elim
  |bad=>rw [e1] at hq;exact hq.elim
 ·exact hq.elim
theorem vD {fa:Fa}{P:Program}{w:World}{K:PySem.W.Frag}{mg:Str->Option Value}{base:Heap}{Pg:Nat->Option Df}(h:∀f d,Pg f=some d->ue fa P w K mg base f d):∀(n f:Nat),ir fa P w K mg base n f (aw Pg n f)
 |0,f=>.inl fun _ _=>rfl
 | n + 1, f => by
   have ih:=vD h n
   cases e:Pg f with
   |none=>exact .inl fun ds M=>by show (match Pg f with|none=>Res.bad|some d=>iI (aw Pg n) d ds M)=Res.bad;rw [e]
   | some d =>
     have eq:∀ds M,aw Pg (n+1) f ds M=iI (aw Pg n) d ds M:=fun ds M=>by show (match Pg f with|none=>Res.bad|some d=>iI (aw Pg n) d ds M)=_;rw [e]
     obtain ⟨ad,fd,ps,N,st,x,qual,h1,F,hb,S,hp,hs,hbody⟩:=(h f d e).ex
     refine .inr ⟨ad,fd,ps,h1,F.kp,hb,fun ds M hl=>?_,?_⟩
     ·rw [eq];unfold iI;rw [if_neg (by rw [hp];exact hl)]
     ·refine rV (k:=n+4) F S (fun vs H Q E hsp=>hsp.1) fun cdv A outer s H vs Q E hr hsp=>⟨_,hbody (aw Pg n) n cdv A outer s H E ih hr,?_⟩
      obtain ⟨hl,μ,M,ds,hM,hr,hq⟩:=hsp
      rw [eq] at hq
      exact td hs hM hr hq
end LD
namespace LD
open PySem PySem.Spec PyProof.Rows L2
def pX (P:Params)(e:DictEntry)(kv:Str×Addr):Prop:=∃t,e=⟨PyData.keyHash P kv.1,.str kv.1 t,.ref kv.2⟩
structure jM (K:PySem.W.Frag) (P:Params) (a:Addr) (kvs:List (Str×Addr)):Prop where
 ex:∃(es:Array DictEntry) (n:Nat),K.lookup a=some {cls:=.type "dict",data:=.dict es n}/\Paired (pX P) es.toList kvs
 nd:(kvs.map (·.1)).Nodup
 ns:(a==sysModules)=false
def wy (kvs:List (Str×Addr)):List (Key×Value):=kvs.map fun kv=>(Sum.inr kv.1,.ref kv.2)
theorem vq {P:Params}:∀{es:List DictEntry}{kvs:List (Str×Addr)},Paired (pX P) es kvs->∀e∈es,∃x t,e.key=.str x t/\e.hash=PyData.keyHash P x
 |_,_,.nil,e,h=>nomatch h
 | _, _, .cons r t, e, h => by
   rcases List.mem_cons.mp h with z|z
   ·subst z;obtain ⟨t,rfl⟩:=r;exact ⟨_,t,rfl,rfl⟩
   ·exact vq t e z
theorem qR {prog:Program}{w:World}:∀{es:List DictEntry}{kvs:List (Str×Addr)},Paired (pX w.params) es kvs->Pairs (ma prog w) es (wy kvs)
 |_,_,.nil=>.nil
 | e :: es, kv :: kvs, .cons r t => by
   obtain ⟨u,rfl⟩:=r
   exact Pairs.cons (kv:=((Sum.inr kv.1:Key),Value.ref kv.2)) (lE kv.1 u) rfl (qR t)
theorem vi {X:Cx}{pins:List (Addr×Obj)}{σ:L2.St}{H:Hp}{s:Shared}{a:Addr}{kvs:List (Str×Addr)}(I:Inv X pins σ H s)(h:jM X.K X.w.params a kvs):s.heap.DictOf (ma X.prog X.w) a (wy kvs):=by
 obtain ⟨es,n,lk,pr⟩:=h.ex
 refine ⟨_,es,n,I.kIn _ _ lk,⟨rfl,rfl,rfl⟩,rfl,fun e he=>?_,qR pr,?_⟩
 ·obtain ⟨x,t,e1,e2⟩:=vq pr e (by simpa using he)
  exact ⟨Sum.inr x,by rw [e1];exact lE x t,e2⟩
 ·have e:(wy kvs).map (·.1)=(kvs.map (·.1)).map Sum.inr:=by unfold wy;simp
  rw [e]
  exact List.Pairwise.map _ (fun a b (n:a≠b) z=>n (Sum.inr.inj z)) h.nd
theorem zL (kvs:List (Str×Addr))(k:Str):valueAt (wy kvs) (Sum.inr k:Key)=(kvs.lookup k).map Value.ref:=by
 induction kvs with
 |nil=>rfl
 | cons kv r ih =>
   unfold valueAt wy at ih ⊢
   rw [List.map_cons,List.find?_cons,List.lookup_cons]
   by_cases e:kv.1=k
   ·subst e;simp
   ·have e2:decide ((Sum.inr kv.1:Key)=Sum.inr k)=false:=decide_eq_false fun z=>e (Sum.inr.inj z)
    have e3:(k==kv.1)=false:=beq_eq_false_iff_ne.mpr (Ne.symm e)
    rw [e2,e3]
    exact ih
def fW (fa:Fa)(kvs:List (Str×Addr))(fs:List (Str×Nat)):Prop:=Paired (fun (p:Str×Addr) (q:Str×Nat)=>p.1=q.1/\fa q.2=some p.2) kvs fs
theorem fW.look {fa:Fa}{k:Str}:∀{kvs:List (Str×Addr)}{fs:List (Str×Nat)},fW fa kvs fs->(fs.lookup k=none/\kvs.lookup k=none)\/∃f ad,fs.lookup k=some f/\kvs.lookup k=some ad/\fa f=some ad
 |_,_,.nil=>.inl ⟨rfl,rfl⟩
 | (x, a) :: r, (y, f) :: t, .cons ⟨e1, e2⟩ q => by
   have e1:x=y:=e1
   subst e1
   rw [List.lookup_cons,List.lookup_cons]
   cases e:k==x with
   |true=>exact .inr ⟨f,a,rfl,rfl,e2⟩
   |false=>exact fW.look q
def oF (fs:List (Str×Nat))(i:GE):GE:=fun Z M=>(i Z M).bind fun d M=>match d with
 |.str k=>dg M ((fs.lookup k).map D.fn)
 |_=>.bad
def oE (fs:List (Str×Nat))(i:GE):GE:=fun Z M=>(i Z M).bind fun d M=>match d with
 |.str k=>.ok (.bl (!(fs.lookup k).isSome)) M
 |_=>.bad
section
variable {fa:Fa}{X:Cx}{a b:Expr}{ga gb:GE}{pos p:Pos}{ad:Addr}{kvs:List (Str×Addr)}{fs:List (Str×Nat)}{x:Str}
theorem BV (hd:jM X.K X.w.params ad kvs):mr X (fun x y H Q=>∃k v,x=.ref ad/\y=.str k/\kvs.lookup k=some v/\Q (.ref v) H):=by
 intro value slice pins s σ H x y v u Q I rx ry h hs
 obtain ⟨k,c,rfl,rfl,hk,q⟩:=h
 cases rx
 obtain ⟨t,rfl⟩:=ry
 have dd:=vi I hd
 have hT:s.TypeIs (.ref ad) "dict":=let ⟨o,_,_,ho,⟨hc,_⟩,_⟩:=dd;⟨o,ho,hc⟩
 refine tail_any hT PySem.F.slot_dict_getitem.lookup (wpAny_getItem_of (k:=(Sum.inr k:Key)) (lE k t) dd.mapOf (v:=.ref c) ?_ ?_) hs
 ·rw [zL,hk];rfl
 ·exact ⟨.ref c,H,I.tok _,rfl,q⟩
theorem Bq (hd:jM X.K X.w.params ad kvs):cu X (compareOp .NotIn) (fun x y H Q=>∃k,x=.str k/\y=.ref ad/\Q (.bl (!(kvs.lookup k).isSome)) H):=by
 intro pins s σ H x y v u Q I rx ry h
 obtain ⟨k,rfl,rfl,q⟩:=h
 obtain ⟨t,rfl⟩:=rx
 cases ry
 have dd:=vi I hd
 refine wpAny_notIn_of (k:=(Sum.inr k:Key)) (lE k t) hd.ns dd.mapOf ?_
 rw [zL,Option.isSome_map]
 exact ⟨.bl _,H,I.tok _,rfl,q⟩
theorem FL (hd:jM X.K X.w.params ad kvs)(ho:fW fa kvs fs)(hg:Gl X x)(hm:X.mg x=some (.ref ad))(hdb:(x==("__debug__":Str))=false)(hb:DE fa X b gb)(hs:mq b):DE fa X (.Subscript (.Name x p) b pos) (oF fs gb):=
 cq (CM (BV hd) (l7 (v:=.ref ad) hg hm rfl hdb) hb hs) fun σ H Q ⟨μ,Z,M,hE,hM,h⟩=>t1 hE hM h fun d M1 v H1 μ1 x1 hE1 hM1 r1 h1=>by
  cases d with
  | str k =>
    obtain ⟨d,e,q⟩:=ow h1
    rcases ho.look (k:=k) with ⟨e1,_⟩|⟨f,c,e1,e2,e3⟩
    ·rw [e1] at e;cases e
    ·rw [e1] at e
     cases e
     exact ⟨k,c,rfl,r1,e2,q (.ref c) H1 μ1 x1 hM1 ⟨c,rfl,e3⟩⟩
  |_=>exact h1.elim
theorem Bt {d:D}{M1:Mem}{P:D->Mem->Prop}(h:aq (match d with|.str k=>Res.ok (.bl (!(fs.lookup k).isSome)) M1|_=>.bad) P):∃k,d=.str k/\P (.bl (!(fs.lookup k).isSome)) M1:=by
 cases d with
 |str k=>exact ⟨k,rfl,h⟩
 |_=>exact h.elim
theorem Ca (ho:fW fa kvs fs)(k:Str):(kvs.lookup k).isSome=(fs.lookup k).isSome:=by
 rcases ho.look (k:=k) with ⟨e1,e2⟩|⟨f,c,e1,e2,_⟩<;>rw [e1,e2]<;>rfl
theorem HQ (ho:fW fa kvs fs)(σ:L2.St)(H:Hp)(Q:VK)(h:tE fa X.K (oE fs ga) σ H Q):yO (fun x y H Q=>∃k,x=.str k/\y=.ref ad/\Q (.bl (!(kvs.lookup k).isSome)) H) (tE fa X.K ga) (tC (.ref ad)) σ H Q:=by
 obtain ⟨μ,Z,M,hE,hM,h⟩:=h
 refine t1 hE hM h fun d M1 v H1 μ1 x1 hE1 hM1 r1 h1=>?_
 obtain ⟨k,rfl,q⟩:=Bt h1
 refine ⟨k,r1,rfl,?_⟩
 rw [Ca ho]
 exact q (.bl _) H1 μ1 x1 hM1 rfl
theorem FW (hd:jM X.K X.w.params ad kvs)(ho:fW fa kvs fs)(hg:Gl X x)(hm:X.mg x=some (.ref ad))(hdb:(x==("__debug__":Str))=false)(ha:DE fa X a ga)(hmk:behindInMarks .NotIn (.Name x p)=false):DT fa X (.Compare a [.NotIn] [.Name x p] pos) (aG (oE fs ga)):=
 nI (wb (Bq hd) ha (l7 (v:=.ref ad) hg hm rfl hdb) hmk) fun σ H Q h=>by
  refine HQ ho σ H _ ?_
  obtain ⟨μ,Z,M,hE,hM,h⟩:=h
  obtain ⟨z,M3,e,q⟩:=bp h
  refine ⟨μ,Z,M,hE,hM,?_⟩
  rw [e]
  have hz:∃k,z=.bl k:=by
   obtain ⟨d,M1,e1,e2⟩:=fV e
   cases d<;>first|(cases e2;exact ⟨_,rfl⟩)|cases e2
  obtain ⟨k,rfl⟩:=hz
  intro v H' μ' x' m' r'
  obtain rfl:v=.bl k:=r'
  exact ⟨k,rfl,q H' μ' x' m'⟩
def nR (m:Bool)(a:GE):GE:=fun Z M=>(a Z M).bind fun x M=>match x with
 |.int n=>if -(2^62)<=n/\n<2^20 then bQ m ((List.range n.toNat).map fun (k:Nat)=>D.int (k:Int)) M else .bad
 |_=>.bad
theorem xZ:∀(n:Nat) (its:List Value),its.length=n->(∀(i:Nat) (v:Value),its[i]?=some v->∃t,v=.int (i:Int) t)->Vals ((List.range n).map fun (k:Nat)=>V.int (k:Int)) its:=by
 intro n its hl h
 have key:∀(k:Nat) (its:List Value),(∀(i:Nat) (v:Value),its[i]?=some v->∃t,v=.int ((k+i:Nat):Int) t)->Vals ((List.range its.length).map fun (j:Nat)=>V.int ((k+j:Nat):Int)) its:=by
  intro k its
  induction its generalizing k with
  |nil=>intro _;exact .nil
  | cons v r ih =>
    intro h
    rw [List.length_cons,List.range_succ_eq_map,List.map_cons,List.map_map]
    refine .cons (h 0 v rfl) ?_
    have:=ih (k+1) fun i u e=>by
     have:=h (i+1) u (by simpa using e)
     rw [show k+1+i=k+(i+1) by omega];exact this
    refine cast (congrArg (fun f=>Vals ((List.range r.length).map f) r) ?_) this
    funext j
    show V.int _=V.int _
    congr 2
    omega
 have:=key 0 its fun i v e=>by rw [Nat.zero_add];exact h i v e
 rw [hl] at this
 simpa using this
theorem DN (m:Bool){p1 p2 pos2:Pos}(hc:X.calm=true)(ha:DE fa X a ga)(hgl:Gl X "list")(hml:X.mg "list"=none)(hg:Gl X "range")(hm:X.mg "range"=none)(hs:starEach [a] X.env=[(false,eval a X.env)])
 (hs2:starEach [.Call (.Name "range" p2) [a] [] pos2] X.env=[(false,eval (.Call (.Name "range" p2) [a] [] pos2) X.env)]) :
 DE fa X (.Call (.Name "list" p1) [.Call (.Name "range" p2) [a] [] pos2] [] pos) (nR m ga):=by
 intro pins s σ H Q I ⟨μ,Z,M,hE,hM,h⟩
 obtain ⟨x,M1,e,q⟩:=bp h
 have key:∀n,x=.int n->aq (if -(2^62)<=n/\n<2^20 then bQ m ((List.range n.toNat).map fun (k:Nat)=>D.int (k:Int)) M1 else .bad) (bJ fa X.K μ H Q)->
  wpAny (model X.prog X.w) X.A (eval (.Call (.Name "list" p1) [.Call (.Name "range" p2) [a] [] pos2] [] pos) X.env) (EP X pins σ Q) X.xe s:=fun n en q'=>by
  subst en
  by_cases c:-(2^62)<=n/\n<2^20
  ·rw [if_pos c] at q'
   refine Call_ (jU I hgl hml (by decide +kernel:bootBuiltins "list"=some (.type "list")) (PyProof.Rows.callWith_type1 ?_ hs2 rfl))
   rw [hs2]
   refine Calls.spliced_cons ?_
   refine Call_ (jU I hg hm boot_range (PyProof.Rows.callWith_type1 (bx (cN ha fb hs pos2 pins s σ H (fun vs H1=>∃μ1,vs=[.int n]/\Ext μ H μ1 H1/\RelM fa X.K μ1 H1 M1) I ⟨μ,Z,M,hE,hM,?_⟩) fun us s1 ⟨vs,H1,I1,r1,μ1,ev,x1,m1⟩=>?_) hs rfl))
   ·rw [e]
    intro v H1 μ1 x1 m1 r1
    obtain rfl:v=.int n:=r1
    exact ⟨μ1,rfl,x1,m1⟩
   subst ev
   cases r1 with
   | cons r rr =>
     cases rr
     obtain ⟨t,rfl⟩:=r
     refine call_range_1 ?_
     refine Calls.spliced_nil ?_
     refine call_list_range (n:=n.toNat) (I.ok.hd hc) (IsRange.new ..) (small_one (by omega) (by omega) (by omega) (by omega)) (by rw [rangeSize_one];split<;>omega) (by omega) fun h' tk acc' c' kp eS its=>?_
     obtain ⟨hsz,hit⟩:=its
     have I2:Inv X pins σ H1 {s1 with heap:=s1.heap.push {cls:=.type "range",data:=.fields #[.int 0 s1.toks,.int n t,.int 1 (s1.toks+1)]},toks:=s1.toks+1+1}:=I1.kept fun b o e=>tqc _ e
     have hv:Vals ((List.range n.toNat).map fun (k:Nat)=>V.int (k:Int)) acc'.toList:=xZ n.toNat acc'.toList (by simpa using hsz) fun i v e=>by
      obtain ⟨u,z⟩:=hit i v (by simpa using e)
      exact ⟨u,by rw [z];simp⟩
     have rl:a9 fa X.K μ1 H1 ((List.range n.toNat).map fun (k:Nat)=>D.int (k:Int)) ((List.range n.toNat).map fun (k:Nat)=>V.int (k:Int)):=by
      have:=a9.ints (fa:=fa) (K:=X.K) (μ:=μ1) (H:=H1) ((List.range n.toNat).map fun (k:Nat)=>(k:Int))
      simpa [List.map_map,Function.comp_def] using this
     obtain ⟨c1,k1⟩:=iD m1 rl (l8 q' x1)
     refine ⟨.ref _,_,I2.laid (t':=tk) (o:=.lst ((List.range n.toNat).map fun (k:Nat)=>V.int (k:Int))) kp (tqg _) ⟨?_,acc'.toList,c',hv,by simpa using eS⟩,rfl,k1 _ (I2.hok.fresh (tqg _))⟩
     rw [rl.length,<- d4];exact c1
  ·rw [if_neg c] at q';exact q'.elim
 cases x with
 |int n=>exact key n rfl q
 |_=>exact q.elim
end
end LD
namespace LD
open PySem PySem.Spec PyProof.Rows L2
def wQ (bn N:List Str)(sc scope:Scope):Bool:=
 scope.names.all (fun y=>y.2 != .cell&&(y.2 != .local||scope.names.lookup y.1==some .local)&&(y.2 != .free||sc.names.lookup y.1==some .cell||sc.names.lookup y.1==some .free)) &&
 bn.length==N.length&&(bn.zip N).all fun p=>(p.1==p.2&&scope.names.lookup p.2 != some .local)||scope.names.lookup p.1==none
theorem qu {α β:Type}{R:α->β->Prop}:∀{l:List α}{r:List β},l.length=r.length->(∀p∈l.zip r,R p.1 p.2)->Paired R l r
 |[],[],_,_=>.nil
 |a::l,b::r,h,g=>.cons (g (a,b) List.mem_cons_self) (qu (by simpa using h) fun p hp=>g p (List.mem_cons_of_mem _ hp))
 |[],_::_,h,_=>by cases h
 |_::_,[],h,_=>by cases h
theorem cA {X:Cx}{own bn N:List Str}{sc scope:Scope}(hk:scope.kind=.function)(hs:X.env.scope=sc)(hN:X.N=N)(h:wQ bn N sc scope=true):fN X own bn scope:=by
 unfold wQ at h
 rw [Bool.and_eq_true,Bool.and_eq_true,List.all_eq_true,List.all_eq_true] at h
 obtain ⟨⟨h1,hl⟩,h2⟩:=h
 refine ⟨hk,fun y hy=>?_,fun y hy e=>?_,fun y hy e=>?_,?_⟩
 ·have:=h1 y hy
  simp only [Bool.and_eq_true] at this
  simpa using this.1.1
 ·have:=h1 y hy
  simp only [Bool.and_eq_true] at this
  have:=this.1.2
  rw [e] at this
  simpa using this
 ·have:=h1 y hy
  simp only [Bool.and_eq_true] at this
  have:=this.2
  rw [e] at this
  show X.env.scope.names.lookup y.1=_\/X.env.scope.names.lookup y.1=_
  rw [hs]
  simpa using this
 ·rw [hN]
  refine qu (by simpa using hl) fun p hp=>?_
  have:=h2 p hp
  simp only [Bool.or_eq_true,Bool.and_eq_true,beq_iff_eq,bne_iff_ne] at this
  exact this
section
variable {fa:Fa}{X:Cx}{elt tg iter c t2 i2:Expr}{scope:Scope}{pos:Pos}{own bn:List Str}{t u:dN}{gw gw2:GW}{ge:GE}{gc:GT}
theorem kI {n:Nat}{l:List Nat}(h:l.all (· < n)=true):∀i∈l,i<n:=fun i hi=>by
 have:=List.all_eq_true.mp h i hi
 simpa using this
theorem yZ {l W:List Nat}(h:W.all (fun i=>!l.contains i)=true):∀i∈W,i∉l:=fun i hi z=>by
 have:=List.all_eq_true.mp h i hi
 simp [z] at this
variable {i:Nat}{y:Str}{py spos:Pos}
theorem DF (m:Bool)(S:fN X own bn scope)(hc:X.calm=true)(hi:DI fa X tg iter gw)(pg:∀cl C fp s H,PG (cg X own bn scope cl C fp s H) tg (gT fa X.K t))(hi2:∀cl C fp s H,DI fa (cg X own bn scope cl C fp s H) t2 i2 gw2)(pg2:∀cl C fp s H,PG (cg X own bn scope cl C fp s H) t2 (gT fa X.K u))(he:∀cl C fp s H,DE fa (cg X own bn scope cl C fp s H) elt ge)
 (hn:(slots t++slots u).all (· < own.length)=true) (hW:(slots u).all (fun i=>!(slots t).contains i)=true) (hs:∀x,foldedSetIterable iter X.env x=pure x) (hs2:∀cl C fp s H,∀x,foldedSetIterable i2 (cg X own bn scope cl C fp s H).env x=pure x)
 (hN:X.N.Nodup) (hy:X.N[i]?=some y) (hl:X.env.scope.names.lookup y=some .local)
 (hsw:swapsWith (.ListComp elt [⟨tg,iter,[],0⟩,⟨t2,i2,[],0⟩] scope pos) (some (.Name y py)) spos.line X.env=pure true):DS fa X (.Assign [.Name y py] (.ListComp elt [⟨tg,iter,[],0⟩,⟨t2,i2,[],0⟩] scope pos) spos) (aP (.one i) (cv m own.length t gw (rT u gw2 (cw ge)))):=
 uL m (W:=slots u) (body:=fun a env=>eval i2 env >>= fun x=>standAt i2.pos >>= fun _=>foldedSetIterable i2 env x >>= fun x=>holding [x] (pyIter x) >>= fun j=>runOwn (.compStart (.ListComp elt [⟨tg,iter,[],0⟩,⟨t2,i2,[],0⟩] scope pos) 1 j (.ref a) env) env >>= fun _=>pure ())
  S hc hi ⟨pg,fun cl C fp s H a=>Iq (X:=cg X own bn scope cl C fp s H) rfl hc (hi2 cl C fp s H) (pg2 cl C fp s H) (he cl C fp s H) (hs2 cl C fp s H)⟩ (fun it a env=>AI elt tg iter t2 i2 scope pos (.ref it) (.ref a) env) (yZ hW) (kI hn) hs hN hy hl hsw
end
end LD
namespace LD
open PySem PySem.Spec PyProof.Rows L2
theorem ki {α β:Type}{f g:α->Option β}:∀{l:List α},(∀x∈l,f x=g x)->l.filterMap f=l.filterMap g
 |[],_=>rfl
 | a :: l, h => by
   rw [List.filterMap_cons,List.filterMap_cons,h a List.mem_cons_self,ki (l:=l) fun x hx=>h x (List.mem_cons_of_mem _ hx)]
theorem sM (n:Nat)(xs:List Value)(h:xs.length=n):(List.range n).filterMap (fun (k:Nat)=>xs[n-1-k]?)=xs.reverse:=by
 have e:∀k∈List.range n,xs[n-1-k]?=some (xs.reverse.getD k .none):=fun k hk=>by
  have hk:=List.mem_range.mp hk
  rw [List.getD_eq_getElem?_getD,List.getElem?_reverse (by omega),h,List.getElem?_eq_getElem (by omega)]
  simp
 have:(List.range n).filterMap (fun (k:Nat)=>xs[n-1-k]?)=(List.range n).map fun k=>xs.reverse.getD k .none:=by
  rw [ki (g:=fun k=>some (xs.reverse.getD k .none)) e]
  simp
 rw [this]
 refine List.ext_getElem? fun i=>?_
 rw [List.getElem?_map]
 by_cases hi:i<n
 ·rw [List.getElem?_range hi]
  show some (xs.reverse.getD i .none)=_
  rw [List.getD_eq_getElem?_getD,List.getElem?_eq_getElem (show i<xs.reverse.length by simp;omega)]
  simp
 ·rw [List.getElem?_eq_none (by simp;omega),List.getElem?_eq_none (by simp;omega)]
  rfl
theorem tH (its:List Value):slicePick its.toArray none none (some (-1))=its.reverse.toArray:=by
 unfold slicePick sliceBounds sliceRange
 simp only [Option.getD_some,List.size_toArray]
 have e1:¬ ((-1:Int) > 0):=by decide
 simp only [e1,if_false]
 have e2:(if (its.length:Int)-1 > -1 then ((its.length:Int)-1 - -1 - -1-1) / (- -1) else 0).toNat=its.length:=by
  split
  ·simp
  ·omega
 rw [e2,List.filterMap_map,<- sM its.length its rfl]
 congr 1
 refine ki fun k hk=>?_
 have hk:=List.mem_range.mp hk
 have e3:((its.length:Int)-1+-1*(k:Int)).toNat=its.length-1-k:=by omega
 show its.toArray[((its.length:Int)-1+-1*(k:Int)).toNat]?=_
 rw [e3]
 simp
section
variable {prog:Program}{w:World}{A:Around}{E:Value->Shared->Prop}{s:Shared}
theorem oS {t sl:Addr}{items:Array Value}{k:Tok}{Q:Value->Shared->Prop}(ht:IsTup s.heap t items)(hs:s.heap.IsSliceOf sl .none .none (.int (-1) k))
 (h:Q (.ref s.heap.objs.size) {s with heap:=s.heap.push {cls:=.type "tuple",data:=.seq items.toList.reverse.toArray}})
 (hsz:items.size<=sizeLine):wpAny (model prog w) A (getItem (.ref t) (.ref sl)) Q E s:=by
 have htake:sizeOk (.seq items.toList.reverse.toArray):=by
  show items.toList.reverse.toArray.size<=sizeLine
  simpa using hsz
 obtain ⟨os,hos,hcs,hds⟩:=id hs
 have hTs:s.TypeIs (.ref sl) "slice":=⟨os,hos,hcs⟩
 unfold getItem
 try with_reducible refine tqo ?_
 first|refine tqa (tqb ?_)|skip
 refine tqa (wpAny_sequenceKey ht.typeIs (by decide) ?_)
 refine tqa (wpAny_callSpecial?_slot (name:=Str.ofString "__getitem__") ht.typeIs PyProof.Rows.slot_tuple_getitem
  (wpAny_call_entry PyProof.Rows.slot_tuple_getitem ht.typeIs entry_tuple_getitem ?_ (args_tuple_getitem _ _)))
 show wpAny _ _ (Builtin.Tuple.tupleItemsOf (.ref t) >>= _) _ _ s
 refine tqa (tupleItemsOf_ ht ?_)
 refine tqa (wpAny_typeOf hTs ?_)
 rw [if_pos (by decide)]
 unfold Builtin.Slice.sliceApplied Builtin.Slice.sliceFields
 refine tqa (tqa (tqa (tqf hos hds (x:=.none) rfl (tqa (tqf hos hds (x:=.none) rfl (tqa (tqf hos hds (x:=.int (-1) k) rfl (tqb ?_))))))))
 refine tqa (slicePart_int ?_)
 show wpAny _ _ (if ((-1:Int)==0)=true then _ else _) _ _ s
 rw [if_neg (by decide)]
 refine tqa (slicePart_none (tqa (slicePart_none (tqa (tqb ?_)))))
 have ea:Builtin.Slice.sliceAdjust none none (-1) (items.size:Int)=((items.size:Int)-1,-1):=by simp [Builtin.Slice.sliceAdjust]
 have ep:Builtin.Slice.slicePlaces ((items.size:Int)-1) (-1) (-1)=items.size:=by
  unfold Builtin.Slice.slicePlaces
  rw [if_neg (by decide)]
  split
  ·simp
  ·omega
 show wpAny _ _ (match Builtin.Slice.sliceAdjust none none (-1) (items.size:Int) with|(lo,hi)=>pure (lo,(-1:Int),Builtin.Slice.slicePlaces lo hi (-1))) _ _ s
 rw [ea]
 show wpAny _ _ (pure ((items.size:Int)-1,(-1:Int),Builtin.Slice.slicePlaces ((items.size:Int)-1) (-1) (-1))) _ _ s
 rw [ep]
 refine tqb ?_
 have hno:¬ ((((items.size:Int)-1)==0&&(-1:Int)==1&&items.size==items.size)=true):=by simp
 show wpAny _ _ (if (((items.size:Int)-1)==0&&(-1:Int)==1&&items.size==items.size)=true then _ else _) _ _ s
 rw [if_neg hno]
 have pick:((List.range items.size).filterMap fun (m:Nat)=>items[(((items.size:Int)-1)+(m:Int) * -1).toNat]?).toArray=items.toList.reverse.toArray:=by
  rw [<- sM items.size items.toList (by simp)]
  congr 1
  refine ki fun m hm=>?_
  have hm:=List.mem_range.mp hm
  have e3:((items.size:Int)-1+(m:Int) * -1).toNat=items.size-1-m:=by omega
  rw [e3]
  simp
 rw [pick]
 first
  |exact tqa (m:=Builtin.Tuple.tupleExact _) (wpAny_newObj_type (tqb ⟨_,rfl,tqb h⟩) htake)
  |exact tqa (m:=Builtin.Tuple.tupleExact _) (wpAny_newObj_type (tqa (tqb (tqb ⟨_,rfl,tqb h⟩))) htake)
  |exact tqa (tqa (m:=Builtin.Tuple.tupleExact _) (wpAny_newObj_type (tqb (tqb ⟨_,rfl,tqb h⟩)) htake))
  |exact tqa (tqa (m:=Builtin.Tuple.tupleExact _) (wpAny_newObj_type (tqb ⟨_,rfl,tqb h⟩) htake))
end
section
variable {fa:Fa}{X:Cx}{a st:Expr}{ga:GE}{pos p2:Pos}
def xb (m:Bool)(x:D)(M:Mem):Res D:=match x with
 |.tup xs=>.ok (.tup xs.reverse) M
 | x => match gD M x with
   |some xs=>bQ m xs.reverse M
   |none=>.bad
def pT (m:Bool)(a:GE):GE:=fun Z M=>(a Z M).bind fun x M=>xb m x M
def FQ (K:PySem.W.Frag):V->Hp->VK->Prop:=fun x H Q=>∃a xs,x=.ref a/\((dq K H a xs/\∀p,H p=none->Q (.ref p) (upd H p (.lst xs.reverse)))\/(eD K H a xs/\∀p,H p=none->Q (.ref p) (upd H p (.tup xs.reverse))))
theorem pz:∀{xs:List V}{us:List Value},Vals xs us->Vals xs.reverse us.reverse
 |_,_,.nil=>.nil
 | _, _, .cons p r => by
   rw [List.reverse_cons,List.reverse_cons]
   exact (pz r).append (.cons p .nil)
theorem Gj {ta:TE}(ha:PE X a ta){ts:TE}(hst:PE X st ts) :
 PE X (.Subscript a (.Slice none none (some st) p2) pos) (fun σ H Q=>ta σ H fun x H1=>ts σ H1 fun y H2=>y=.int (-1)/\FQ X.K x H2 Q):=by
 intro pins s σ H Q I h
 refine Subscript_ (bx (ha pins s σ H _ I h) fun v s1 ⟨x,H1,I1,r1,q1⟩=>?_)
 refine wpAny_Slice ?_
 rw [evalPart_none]
 refine tqb ?_
 refine tqb ?_
 rw [evalPart_some]
 refine bx (hst pins s1 σ H1 _ I1 q1) fun vu s3 ⟨y,H3,I3,r3,ey,q3⟩=>?_
 subst ey
 obtain ⟨k,rfl⟩:=r3
 have I4:Inv X pins σ H3 {s3 with heap:=s3.heap.push {cls:=.type "slice",data:=.fields #[.none,.none,.int (-1) k]}}:=I3.kept (t':=s3.toks) fun b ob q=>tqc _ q
 have hsl:(s3.heap.push {cls:=.type "slice",data:=.fields #[.none,.none,.int (-1) k]}).IsSliceOf s3.heap.objs.size .none .none (.int (-1) k):=Heap.IsSliceOf.new ..
 obtain ⟨b,xs,rfl,q⟩:=q3
 cases r1
 have key:∃T id,typeLookup (.type T) "__getitem__"=pure (some (.builtin id))/\Shared.TypeIs {s3 with heap:=s3.heap.push {cls:=.type "slice",data:=.fields #[.none,.none,.int (-1) k]}} (.ref b) T/\wpAny (model X.prog X.w) X.A (getItem (.ref b) (.ref s3.heap.objs.size)) (EP X pins σ Q) X.xe {s3 with heap:=s3.heap.push {cls:=.type "slice",data:=.fields #[.none,.none,.int (-1) k]}}:=by
  rcases q with ⟨hx,q⟩|⟨hx,q⟩
  ·obtain ⟨its,r,ht,hz⟩:=I4.list hx
   have hlen:=r.length
   refine ⟨"list",_,slot_list_getitem.lookup,ht.isList.typeIs,?_⟩
   refine wpAny_getItem_list_slice ht.isList hsl .none .none (.int (-1) k) (by decide) ?_ (by rw [List.size_toArray]<;>omega)
   rw [tH]
   refine ⟨.ref _,_,I4.laid (t':=s3.toks) (o:=.lst xs.reverse) (fun b ob q=>tqc _ q) (tqg _) ?_,rfl,q _ (I4.hok.fresh (tqg _))⟩
   exact ⟨by simpa using hz,_,0,pz r,tqe _ rfl⟩
  ·obtain ⟨its,r,ht,hz⟩:=I4.tuple hx
   have hlen:=r.length
   refine ⟨"tuple",_,PyProof.Rows.slot_tuple_getitem.lookup,ht.typeIs,?_⟩
   refine oS ht hsl ?_ (by rw [List.size_toArray,<- hlen];exact hz)
   refine ⟨.ref _,_,I4.laid (t':=s3.toks) (o:=.tup xs.reverse) (fun b ob q=>tqc _ q) (tqg _) ?_,rfl,q _ (I4.hok.fresh (tqg _))⟩
   exact ⟨by simpa using hz,_,pz r,IsTup.new _ _⟩
 obtain ⟨T,id,hT,ht,hg⟩:=key
 show wpAny (model X.prog X.w) X.A (subscriptTail a (.Slice none none (some st) p2) (.ref b) (.ref s3.heap.objs.size)) (EP X pins σ Q) X.xe {s3 with heap:=s3.heap.push {cls:=.type "slice",data:=.fields #[.none,.none,.int (-1) k]}}
 exact tail_any (ops:=[.ref b,.ref s3.heap.objs.size]) ht hT hg (by with_unfolding_all rfl)
theorem Jc (m:Bool){pc pu:Pos}{k:Nat}(ha:DE fa X a ga):DE fa X (.Subscript a (.Slice none none (some (.UnaryOp .USub (.Constant (.int 1) k pc) pu)) p2) pos) (pT m ga):=
 cq (Gj ha (CK yH zk)) fun σ H Q ⟨μ,Z,M,hE,hM,h⟩=>t1 hE hM h fun x M1 v H1 μ1 x1 hE1 hM1 r1 h1=>by
  refine ⟨1,rfl,rfl,?_⟩
  have lst:∀(ds:List D) (b:Addr) (vs:List V),dq X.K H1 b vs->a9 fa X.K μ1 H1 ds vs->aq (bQ m ds.reverse M1) (bJ fa X.K μ H Q)->FQ X.K (.ref b) H1 Q:=fun ds b vs hs hr h1=>by
   obtain ⟨_,q⟩:=iD hM1 hr.reverse (l8 h1 x1)
   exact ⟨b,vs,rfl,.inl ⟨hs,q⟩⟩
  cases x with
  | tup ds =>
    obtain ⟨b,vs,rfl,hs,hr⟩:=r1
    exact ⟨b,vs,rfl,.inr ⟨hs,jo hM1 hr.reverse (bJ.ext h1 x1)⟩⟩
  | lst ds =>
    obtain ⟨b,vs,rfl,hs,hr⟩:=r1
    exact lst ds b vs (dq.of hs.1) hr h1
  | frz ds =>
    obtain ⟨b,vs,rfl,hs,hr⟩:=r1
    exact lst ds b vs (hs.elim (fun ⟨o,z⟩=>.inl (.inr ⟨o,z⟩)) .inr) hr h1
  | cell k =>
    obtain ⟨b,rfl,hk⟩:=r1
    obtain ⟨ds,vs,e,hH,hr⟩:=hM1.mu_lt hk
    have h1:aq (match M1[k]? with|some xs=>bQ m xs.reverse M1|none=>.bad) (bJ fa X.K μ H Q):=h1
    rw [e] at h1
    exact lst ds b vs (dq.of hH) hr h1
  |_=>exact h1.elim
end
end LD
namespace LD
open PySem PySem.Spec PyProof.Rows L2
theorem mm {fa:Fa}{mg:Str->Option Value}{i:Nat}{x:Str}{f:Addr}(e:fa i=some f)(m:mg x=some (.ref f)):∀ad,fa i=some ad->mg x=some (.ref ad):=fun ad h=>by rw [e] at h;cases h;exact m
theorem us1 {α:Type}{p:List α->Prop}(h:∀a,p [a])(us:List α)(hl:us.length=1):p us:=by
 obtain ⟨a,rfl⟩:=List.length_eq_one_iff.mp hl;exact h a
theorem Kb {α:Type}{p:List α->Prop}(h:∀a b,p [a,b]):∀(us:List α) (hl:us.length=2),p us
 |[a,b],_=>h a b
theorem us3 {α:Type}{p:List α->Prop}(h:∀a b c,p [a,b,c]):∀(us:List α) (hl:us.length=3),p us
 |[a,b,c],_=>h a b c
theorem us4 {α:Type}{p:List α->Prop}(h:∀a b c d,p [a,b,c,d]):∀(us:List α) (hl:us.length=4),p us
 |[a,b,c,d],_=>h a b c d
theorem Jw {K:PySem.W.Frag}{h:Heap}{mg:Str->Option Value}{f:Addr}{x:Str}{st:Stmt}{oc:Value}{od an:Option Addr}{osl:Array (Option Value)}{kV doc pm cdv ct:Value}(X:K.In h)(G:h.Ns mainGlobals mg)
 (a:PySem.W.nsIn K mainGlobals x=some (some (.ref f))) (l:K.lookup f=some ⟨oc,od,.func (PySem.W.fnOf x x (gp st) (dH st) (aV st) .none kV doc pm an cdv ct),osl⟩)
 (c:PySem.W.codeIn K cdv x=true) (k:PySem.W.keepIn K (.ref f)=true):∃f fd,mg x=some (.ref f)/\pd K x x st f fd:=⟨f,_,PySem.W.mg_of X G a,zV l c k⟩
theorem l9 {K:PySem.W.Frag}{h:Heap}{mg:Str->Option Value}{x:Str}{i:Int}{t:Tok}(X:K.In h)(G:h.Ns mainGlobals mg)(a:PySem.W.nsIn K mainGlobals x=some (some (.int i t))):∃t,mg x=some (.int i t):=⟨t,PySem.W.mg_of X G a⟩
theorem cz {K:PySem.W.Frag}{h:Heap}{mg:Str->Option Value}{x:Str}{f:Addr}(X:K.In h)(G:h.Ns mainGlobals mg)(a:PySem.W.nsIn K mainGlobals x=some (some (.ref f))):mg x=some (.ref f):=PySem.W.mg_of X G a
theorem fF {K:PySem.W.Frag}{h:Heap}{mg:Str->Option Value}{x:Str}(X:K.In h)(G:h.Ns mainGlobals mg)(a:PySem.W.nsIn K mainGlobals x=some none):mg x=none:=PySem.W.mg_none_of X G a
theorem zM {P:Params}:Paired (pX P) [] []:=.nil
theorem iL {P:Params}{x:Str}{t:Tok}{a:Addr}{es:List DictEntry}{kvs:List (Str×Addr)}(h:Paired (pX P) es kvs):Paired (pX P) (⟨PyData.keyHash P x,.str x t,.ref a⟩::es) ((x,a)::kvs):=.cons ⟨t,rfl⟩ h
def CD (K:PySem.W.Frag):Sp:=fun vs H Q _=>∃(a:Addr) (ns:List Int),vs=[.ref a]/\dq K H a (ns.map V.int)/\yw H/\ns.length<=63/\∀H',Q (.bl true) H'
theorem Hz {fa:Fa}{P:Program}{w:World}{K:PySem.W.Frag}{mg:Str->Option Value}{base:Heap}{Pg:Nat->Option Df}{n f:Nat}{ad:Addr}{d:Df}{fd:FuncData}{N:List Str}{st:Stmt}{x qual y:Str}(h:∀f d,Pg f=some d->ue fa P w K mg base f d)
 (hl:∀ns:List Int,ns.length<=63->∃M,aw Pg (n+1) f [.frz (ns.map D.int)] []=.ok (.bl true) M) (e:Pg f=some d) (F:pd K x qual st ad fd) (S:hV N [y] (aV st)) (hs:d.slots=N.length)
 (hbody:∀(call:Call) (n:Nat) (cdv:Value) (A:Around) (outer:List PySem.Env) (s:Shared) (H:Hp) (E:XK),(∀f,ir fa P w K mg base n f (call f))->cC (n+4) (A.deeper (envOfC qual (aV st) s.heap.objs.size ad cdv))->
  iq fa (gx (iN P w) P w K mg base N qual (aV st) ad cdv A outer s H E) (dH st) (d.body call)):lV P w K mg base (iN P w) (n+4+1) ad fd [y] (CD K):=by
 have eq:∀ds M,aw Pg (n+1) f ds M=iI (aw Pg n) d ds M:=fun ds M=>by show (match Pg f with|none=>Res.bad|some d=>iI (aw Pg n) d ds M)=_;rw [e]
 refine rV F S (fun vs H Q E hsp=>?_) fun cdv A outer s H vs Q E hr hsp=>⟨_,hbody (aw Pg n) n cdv A outer s H E (vD h n) hr,?_⟩
 ·obtain ⟨a,ns,rfl,_⟩:=hsp;rfl
 ·obtain ⟨a,ns,rfl,hS,hO,hn,q⟩:=hsp
  obtain ⟨M',e'⟩:=hl ns hn
  rw [eq] at e'
  have rp:a9 fa K ⟨fun _=>none,[]⟩ H [.frz (ns.map D.int)] [.ref a]:=by
   refine ⟨.ref a,[],rfl,⟨a,ns.map V.int,rfl,?_,a9.ints ns⟩,rfl⟩
   rcases hS with (z|⟨o,z⟩)|z
   ·rcases hO a with y|⟨o,xs,y⟩
    ·rw [y] at z;cases z
    ·rw [y] at z;cases z
   ·exact .inl ⟨o,z⟩
   ·exact .inr z
  refine td (μ:=⟨fun _=>none,[]⟩) (M:=[]) hs ⟨fun k ds z=>by simp at z,fun _ _=>rfl,(fun _ _ _ z=>nomatch z),(fun _ z=>nomatch z)⟩ rp ?_
  rw [e']
  intro v H' μ' _ _ r
  obtain rfl:v=.bl true:=r
  exact q H'
theorem DM {o:Option Value}{a b:Addr}(h:o=some (.ref a))(h':o=some (.ref b)):a=b:=by rw [h] at h';cases h';rfl
theorem gL {fa:Fa}{x:Str}{a b:Addr}{i:Nat}{kvs:List (Str×Addr)}{fs:List (Str×Nat)}{o:Option Value}(h:fa i=some a)(h1:o=some (.ref a))(h2:o=some (.ref b))(r:fW fa kvs fs):fW fa ((x,b)::kvs) ((x,i)::fs):=
 .cons ⟨rfl,by rw [<- DM h1 h2];exact h⟩ r
theorem wt {K:PySem.W.Frag}{h:Heap}{mg:Str->Option Value}{x:Str}{ad:Addr}{P:Params}{es:Array DictEntry}{n:Nat}{kvs:List (Str×Addr)}{fa:Fa}{fs:List (Str×Nat)}(X:K.In h)(G:h.Ns mainGlobals mg)(a:PySem.W.nsIn K mainGlobals x=some (some (.ref ad)))
 (l:K.lookup ad=some {cls:=.type "dict",data:=.dict es n}) (he:Paired (pX P) es.toList kvs) (nd:(kvs.map (·.1)).Nodup) (ns:(ad==sysModules)=false) (dk:fW fa kvs fs):∃ad kvs,mg x=some (.ref ad)/\jM K P ad kvs/\fW fa kvs fs:=
 ⟨ad,kvs,PySem.W.mg_of X G a,⟨⟨es,n,l,he⟩,nd,ns⟩,dk⟩
end LD
namespace LD
open PySem PySem.Spec PyProof.Rows L2
theorem yP (lo hi:Option Int)(n:Nat):Builtin.Str.strSliceIndices lo hi 1 n=(List.range (HT.a8 n n hi-HT.a8 n 0 lo)).map (HT.a8 n 0 lo+·):=by
 rw [<- sliceRange_one]
 unfold Builtin.Str.strSliceIndices
 simp only [show (1:Int) > 0 by decide,if_true]
 congr 1
 ·cases lo with
  |none=>rfl
  | some i =>
    simp only [HT.a8]
    split<;>omega
 ·cases hi with
  |none=>rfl
  | some i =>
    simp only [HT.a8]
    split<;>omega
def jB (z:Str)(l h:Nat):Str:=⟨(cut z.cps.toList l h).toArray⟩
section
variable {fa:Fa}{X:Cx}{a b:Expr}{ga gb:GE}{pos p2:Pos}{tg:Expr}
theorem uU {v:Value}{o:Option Int}(h:IsPart v o):∃p:Option (Int×Tok),v=partValue p/\p.map (·.1)=o:=by
 cases h with
 |none=>exact ⟨none,rfl,rfl⟩
 |int i t=>exact ⟨some (i,t),rfl,rfl⟩
theorem Fz:nh X (fun x lo hi H Q=>∃z:Str,x=.str z/\z.cps.size<=sizeLine/\Q (.str (jB z (HT.a8 z.cps.size 0 lo) (HT.a8 z.cps.size z.cps.size hi))) H):=by
 intro pins s σ H x v vl vu lo hi sl Q I rx hs pl pu h
 obtain ⟨z,rfl,hz,q⟩:=h
 obtain ⟨t,rfl⟩:=rx
 obtain ⟨l,rfl,el⟩:=uU pl
 obtain ⟨u,rfl,eu⟩:=uU pu
 refine ⟨"str",_,slot_str_getitem.lookup,typeIs_str s z t,?_⟩
 refine wpAny_getItem_str_slice (l:=l) (u:=u) (st:=none) hs rfl ?_
 have e:(slicePicked z l u none).filterMap (z.cps[·]?)=cut z.cps.toList (HT.a8 z.cps.size 0 lo) (HT.a8 z.cps.size z.cps.size hi):=by
  unfold slicePicked
  rw [el,eu]
  show (Builtin.Str.strSliceIndices lo hi 1 z.cps.size).filterMap _=_
  rw [yP,pick_run]
  rfl
 unfold sliceMade
 split
 ·next c=>
  have c':(slicePicked z l u none).length=z.length:=by simpa using c
  have e2:jB z (HT.a8 z.cps.size 0 lo) (HT.a8 z.cps.size z.cps.size hi)=z:=by
   have hl:HT.a8 z.cps.size z.cps.size hi-HT.a8 z.cps.size 0 lo=z.cps.size:=by
    unfold slicePicked at c'
    rw [el,eu] at c'
    have c':(Builtin.Str.strSliceIndices lo hi 1 z.cps.size).length=z.cps.size:=c'
    rw [yP] at c'
    simpa using c'
   have hh:HT.a8 z.cps.size z.cps.size hi<=z.cps.size:=by
    cases hi with
    |none=>exact tqg _
    |some i=>simp only [HT.a8];split<;>omega
   have h0:HT.a8 z.cps.size 0 lo=0\/z.cps.size=0:=by omega
   unfold jB cut
   rw [hl]
   rcases h0 with h0|h0
   ·rw [h0]
    rcases z with ⟨zs⟩
    show (⟨(List.take zs.size (List.drop 0 zs.toList)).toArray⟩:Str)=⟨zs⟩
    rw [List.drop_zero,List.take_of_length_le (by simp)]
   ·have:z.cps=#[]:=Array.eq_empty_of_size_eq_zero h0
    rcases z with ⟨zs⟩
    simp at this
    subst this
    simp
  rw [e2] at q
  exact ⟨.str z,H,I,⟨t,rfl⟩,q⟩
 ·rw [e]
  refine ⟨?_,.str _,H,I.tok _,⟨_,rfl⟩,q⟩
  have:(cut z.cps.toList (HT.a8 z.cps.size 0 lo) (HT.a8 z.cps.size z.cps.size hi)).length<=z.cps.size:=by
   unfold cut
   rw [List.length_take,List.length_drop]
   simp
   omega
  show (cut z.cps.toList _ _).toArray.size<=sizeLine
  simp at this ⊢
  omega
def oC (hl hh:Bool)(a lo hi:GE):GE:=fun Z M=>(a Z M).bind fun x M=>(lo Z M).bind fun l M=>(hi Z M).bind fun h M=>if cy hl l&&cy hh h then (match x with
 | .str z => if z.cps.size <= sz then (match a8 z.cps.size 0 l, a8 z.cps.size z.cps.size h with
   |some l,some h=>.ok (.str (jB z l h)) M
   |_,_=>.bad) else .bad
 |_=>.bad) else .bad
theorem FI (hl hh:Bool){lo hi:Option Expr}{gl gh:GE}(ha:DE fa X a ga)(hlo:DO fa X lo hl gl)(hhi:DO fa X hi hh gh):DE fa X (.Subscript a (.Slice lo hi none p2) pos) (oC hl hh ga gl gh):=
 cq (uS Fz ha hlo hhi) fun σ H Q ⟨μ,Z,M,hE,hM,h⟩=>t1 hE hM h fun x M1 v H1 μ1 x1 hE1 hM1 r1 h1=>by
  obtain ⟨l,M2,e2,h2⟩:=bp h1
  obtain ⟨u,M3,e3,h3⟩:=bp h2
  split at h3
  ·next c=>
   rw [Bool.and_eq_true] at c
   obtain ⟨ol,el⟩:=part_of c.1
   obtain ⟨ou,eu⟩:=part_of c.2
   refine ⟨μ1,Z,M1,hE1,hM1,?_⟩
   rw [e2]
   refine ⟨ol,c.1,el,fun H2 μ2 x2 hM2=>⟨μ2,Z,M2,hE1.ext x2,hM2,?_⟩⟩
   rw [e3]
   refine ⟨ou,c.2,eu,fun H3 μ3 x3 hM3=>?_⟩
   cases x with
   | str z =>
     obtain rfl:v=.str z:=r1
     dsimp only at h3
     split at h3
     ·next hz=>
      simp only [pH,el,eu,Option.map_some] at h3
      exact ⟨z,rfl,by rw [<- d4];exact hz,bF (v:=.str _) hM3 (bJ.ext h3 ((x1.trans x2).trans x3)) rfl⟩
     ·exact h3.elim
   |_=>exact h3.elim
  ·exact h3.elim
def signs (z:Str):List D:=z.cps.toList.map fun c=>.str ⟨#[c]⟩
def IJ (z:Str):It:=⟨fun i _=>i<z.cps.size,fun i H x H'=>H'=H/\∃c,z.cps[i]?=some c/\x=.str ⟨#[c]⟩,fun i _=>z.cps.size<=i⟩
theorem uk {P:Program}{w:World}{K:PySem.W.Frag}{n:String}(hn:["enumerate","zip","dict_itemiterator","dict_reverseitemiterator","odict_iterator","itertools.zip_longest","itertools.pairwise"].contains n=false)(it:Addr)(z:Str)(t:Tok)
 (W:∀A':Around,A'.handled=none->Walks P w A' it [it] [it] z.cps.size (SignAt z) (fun i h=>h.IsStrIter it n z t i))
 (S:∀(A:Around) (i:Nat) (s:Shared) (Q:Value->Shared->Prop) (E:Value->Shared->Prop),s.heap.IsStrIter it n z t i->Q (.ref it) s->wpAny (model P w) A (pyIter (.ref it)) Q E s)
 (D:∀(A:Around) (hh:A.handled=none) (i:Nat) (s:Shared) (Q:Option Value->Shared->Prop) (E:Value->Shared->Prop),s.heap.IsStrIter it n z t i->z.cps.size<=i->(∀h',(∀b o,b≠it->s.heap.get? b=some o->h'.get? b=some o)->Q none {s with heap:=h'})->wpAny (model P w) A (pyNext (.ref it)) Q E s) :
 Turn P w K tg (IJ z) [it] it (fun i h=>h.IsStrIter it n z t i) where
 mem:=by simp
 obj:=fun i h st b hb=>by
  have e:b=it:=by simpa using hb
  subst e
  obtain ⟨o,e,c,d⟩:=st
  exact ⟨o,e,fun v z=>by rw [d] at z;cases z⟩
 keep:=fun i h h' st k=>let ⟨o,e,r⟩:=st;⟨o,k it (by simp) o e,r⟩
 item:=by
  intro X hP hw hK hc i pins s σ H E I hf st hg
  subst hP hw hK
  obtain ⟨f0,f1,f2,f3,f4,f5⟩:=hf it (by simp)
  refine (W X.A (I.ok.hd hc)).item i s _ _ hg st fun v h' tk hv st' kk=>?_
  obtain ⟨c,u,hc',rfl⟩:=hv
  have I1:Inv X pins σ H {s with heap:=h',toks:=tk}:=I.turned (fun b o hb e=>kk b o (by simpa using hb) e) f0 f1 f3 f4 f5
  obtain ⟨o,e,co,d⟩:=id st'
  exact ⟨_,rfl,ub (s:={s with heap:=h',toks:=tk}) e co d hn ⟨.str ⟨#[c]⟩,H,I1,⟨u,rfl⟩,⟨rfl,c,hc',rfl⟩,st',fun b hb=>(hf b hb).1⟩⟩
 done:=by
  intro X hP hw hK hc i pins s σ H E I hf st hg
  subst hP hw hK
  obtain ⟨f0,f1,f2,f3,f4,f5⟩:=hf it (by simp)
  exact D X.A (I.ok.hd hc) i s _ _ st hg fun h' eb=>⟨rfl,I.turned (t':=s.toks) (fun b o hb e=>eb b o hb e) f0 f1 f3 f4 f5⟩
 self:=fun A i s Q E st h=>S A i s Q E st h
theorem Ge {l:Expr}{tl:TE}(hl:PE X l tl):PI X tg l (fun σ H R=>tl σ H fun x H1=>∃z,x=.str z/\R (IJ z) H1):=by
 intro pins s σ H R I h
 refine bx (hl pins s σ H _ I h) fun v s1 ⟨x,H1,I1,r1,q1⟩=>?_
 obtain ⟨z,rfl,q⟩:=q1
 obtain ⟨t,rfl⟩:=r1
 have fp:∀b∈[s1.heap.objs.size],ie X pins H1 b:=fun b hb=>by
  have e:b=s1.heap.objs.size:=by simpa using hb
  subst e
  exact I1.fpOk (tqg _) (I1.hok.fresh (tqg _))
 cases ha:z.cps.all (· < 128)
 ·refine wpAny_pyIter_wide ha ?_
  exact ⟨s1.heap.objs.size,[s1.heap.objs.size],_,_,H1,rfl,I1.kept (t':=s1.toks) fun b o e=>tqc _ e,uk (n:="str_iterator") rfl _ z t (fun A' h=>Walks.strWide h _ z t) (fun A i s Q E st h=>wpAny_pyIter_striter_wide st h) (fun A hh i s Q E st hi k=>wpAny_pyNext_wide_end hh st (by simp;omega) k),⟨_,tqe _ rfl,rfl,rfl⟩,fp,q⟩
 ·refine wpAny_pyIter_ascii ha ?_
  exact ⟨s1.heap.objs.size,[s1.heap.objs.size],_,_,H1,rfl,I1.kept (t':=s1.toks) fun b o e=>tqc _ e,uk (n:="str_ascii_iterator") rfl _ z t (fun A' h=>Walks.strAscii h _ z t) (fun A i s Q E st h=>wpAny_pyIter_striter_ascii st h) (fun A hh i s Q E st hi k=>wpAny_pyNext_ascii_end hh st (by simp;omega) k),⟨_,tqe _ rfl,rfl,rfl⟩,fp,q⟩
def qN (ga:GE):Env->Mem->Res Walk:=fun Z M=>(ga Z M).bind fun x M=>match x with
 |.str z=>.ok (fun _=>some (signs z)) M
 |_=>.bad
theorem AE {μ0:Mu}{H0:Hp}(z:Str):fj fa X.K μ0 H0 (fun _=>some (signs z)) (IJ z):=fun μ H M ds x hM e=>by
 cases e
 refine ⟨fun i d hd=>?_,fun i hi=>(show z.cps.size<=i by simpa [signs] using hi)⟩
 have hd:(signs z)[i]?=some d:=hd
 unfold signs at hd
 rw [List.getElem?_map] at hd
 cases e:z.cps.toList[i]? with
 |none=>rw [e] at hd;cases hd
 | some c =>
   rw [e] at hd
   have e':D.str ⟨#[c]⟩=d:=Option.some.inj hd
   subst e'
   have e2:z.cps[i]?=some c:=by simpa using e
   refine ⟨(Array.getElem?_eq_some_iff.mp e2).1,fun y H' ⟨e1,c',e3,e4⟩=>?_⟩
   rw [e2] at e3
   cases e3
   subst e1 e4
   exact ⟨.refl,hM,rfl⟩
theorem EL (ha:DE fa X a ga):DI fa X tg a (qN ga):=fun pins s σ H R I ⟨μ,Z,M,hE,hM,h⟩=>by
 obtain ⟨x,M1,e,q⟩:=bp h
 refine Ge ha pins s σ H R I ⟨μ,Z,M,hE,hM,?_⟩
 rw [e]
 intro v H1 μ1 x1 m1 r1
 cases x with
 | str z =>
   obtain rfl:v=.str z:=r1
   exact ⟨z,rfl,q _ H1 μ1 x1 m1 (AE z)⟩
 |_=>exact q.elim
end
end LD
namespace LD
open PySem PySem.Spec PySem.Calls PyProof.Rows PySem.W
section
variable {prog:Program}{w:World}{A:Around}{E:Value->Shared->Prop}{s:Shared}{K:Frag}{x C:Addr}{ox:Obj}{od:Option Obj}{name:Str}
def mx (K:Frag)(C:Addr):Bool:=findIn K (.ref C) "__getattribute__"==some (some (.builtin "BaseException.__getattribute__"))&&findIn K (.ref C) "__getattr__"==some none&&mroIn K C (.type "BaseException")==some true&&mroIn K C (.type "object")==some true &&
 findIn K (.ref C) "__class__"==some (some (.builtin "object.__class__"))&&specialIn K (.builtin "object.__class__") "__get__"==some (some (.builtin "getset_descriptor.__get__"))&&takesIn K (.builtin "object.__class__")==some true
def Ma (prog:Program)(w:World)(A:Around)(x C:Addr)(Q:Value->Shared->Prop)(E:Value->Shared->Prop)(s:Shared):Builtin.ObjectAttr.Found->Prop
 |.value v=>wpAny (model prog w) A (handedOut v) Q E s
 |.bind g a=>wpAny (model prog w) A.in1 (call g [a,.ref x,.ref C]) (fun v s'=>wpAny (model prog w) A (handedOut v) Q E s') (fun _ _=>False) s
 |.missing=>False
theorem wI {r:Builtin.ObjectAttr.Found}{tk:Tok}{fill expr:Bool}{Q:Value->Shared->Prop}(X:K.In s.heap)(I:InstAt s.heap x ox C od)(hg:mx K C=true)(hf:findObj K C od name=some r)
 (h:Ma prog w A x C Q E s r) :
 wpAny (model prog w) A (getAttrBy (.ref x) (.str name tk) fill expr) Q E s:=by
 unfold mx at hg
 simp only [Bool.and_eq_true,beq_iff_eq] at hg
 obtain ⟨⟨⟨⟨⟨⟨hga,hgn⟩,hmB⟩,hmO⟩,_⟩,_⟩,_⟩:=hg
 obtain ⟨hh,g,d,t,os⟩:=s
 have L0:=I.type (M:=model prog w)
 have L1:=looks_findIn (M:=model prog w) X hga
 have L2:=looks_findIn (M:=model prog w) X hgn
 have L3:=looks_find (M:=model prog w) X I hf
 have L4:=looks_mroIn (M:=model prog w) X hmB
 have hx2:(Value.builtin "BaseException.__getattribute__"==Value.builtin "object.__getattribute__")=false:=by decide +kernel
 have hk:builtinKind "BaseException.__getattribute__"=some .slot:=by decide +kernel
 have hsplit:splitId "BaseException.__getattribute__"=some ("BaseException","__getattribute__"):=by decide +kernel
 unfold getAttrBy
 refine tqo (tqa (L0.at (tqa (L1.at ?_))))
 show wpAny _ _ (if (true&&Value.builtin "BaseException.__getattribute__"==Value.builtin "object.__getattribute__")=true then _ else _) _ _ _
 rw [hx2,if_neg (by decide)]
 unfold getAttrByItsOwn
 refine tqa (show wpAny _ _ (typeLookup (.ref C) "__getattr__") _ _ _ from L2.at (tqa (wpAny_attempt (tqo ?_))))
 unfold callGetattribute
 rw [if_neg (by cases expr<;>decide)]
 unfold boundAndCalled
 refine tqa (wpAny_of_eq (PySem.F.excAttr_ValueError.ga.bind (.ref x)) ?_)
 refine wpAny_call (codeAny_call_builtin PySem.F.excAttr_ValueError.ga.plain F.entry_bexc_ga ?_)
 simp only [checkBuiltinCall,hk,hsplit]
 refine tqa (show wpAny _ _ (isInstance (.ref x) (.type "BaseException")) _ _ _ from tqa (L0.at (L4.at ?_)))
 have ha:=F.args_bexc_ga (.ref x) (.str name tk)
 repeat (any_goals (first|assumption|wp_step))
 refine wpAny_loadPart_at I.at_ (tqb ?_)
 rw [I.cls]
 refine tqa (L3.at ?_)
 cases r with
 |value v=>exact tqb h
 | bind g a =>
   show wpAny _ _ (holding [a] (call g [a,.ref x,.ref C]) >>= ret) _ _ _
   exact tqa (tqo (wpAny_mono h (fun v s' z=>tqb z) fun _ _ z=>z.elim))
 |missing=>exact h.elim
theorem zY {Q:Option Value->Shared->Prop}(X:K.In s.heap)(I:InstAt s.heap x ox C od)(hg:mx K C=true)(h:Q (some (.ref C)) {s with toks:=s.toks+1}):wpAny (model prog w) A (getAttr? (.ref x) "__class__") Q E s:=by
 have hg':=hg
 unfold mx at hg'
 simp only [Bool.and_eq_true,beq_iff_eq] at hg'
 obtain ⟨⟨⟨⟨⟨⟨_,_⟩,_⟩,hm⟩,ha⟩,hn⟩,htk⟩:=hg'
 have hf:findObj K C od "__class__"=some (.bind (.builtin "getset_descriptor.__get__") (.builtin "object.__class__")):=by
  obtain ⟨cd,hc,_⟩:=Option.bind_eq_some_iff.mp hm
  unfold findObj
  rw [hc,Option.bind_some,ha,Option.bind_some]
  simp [hn,htk]
 unfold getAttr? getAttrBy?
 refine tqa (wpAny_mkText (tqa (wpAny_attempt (wI (s:={s with toks:=s.toks+1}) (r:=.bind (.builtin "getset_descriptor.__get__") (.builtin "object.__class__")) X I hg hf ?_))))
 exact wpAny_call (class_get (s:={s with toks:=s.toks+1}) (ox:=ox) (od:=od) X I hm (handed_on rfl (tqb h)))
theorem EB {c:Value}{Q:Value->Shared->Prop}(X:K.In s.heap)(I:InstAt s.heap x ox C od)(hg:mx K C=true)(hty:∀(M:Model) h',K.In h'->Looks M h' (typeOf c) (.type "type"))(his:∀(M:Model) h',K.In h'->Looks M h' (isType c) true)
 (hne:(Value.ref C==c)=false) (hsub:∀(M:Model) h',K.In h'->Looks M h' (isSubtype (.ref C) c) false) (h:Q (.bool false) {s with toks:=s.toks+1}):wpAny (model prog w) A (call (.builtin "isinstance") [.ref x,c]) Q E s:=by
 refine call_isinstance_of ?_ (by intro q;cases q)
 have hisD:Looks (model prog w) s.heap (isType (.ref C)) true:=by
  have hg':=hg
  unfold mx at hg'
  simp only [Bool.and_eq_true,beq_iff_eq] at hg'
  obtain ⟨cd,hc,_⟩:=Option.bind_eq_some_iff.mp hg'.1.1.1.2
  unfold clsIn at hc
  split at hc
  ·rename_i c' d' cd' sl' ho
   intro A' Q' E' s' k q
   unfold isType loadHead
   exact tqa (wpAny_loadPart (k _ _ (X _ _ ho)) (tqb q))
  ·cases hc
 have hty:=hty (model prog w) s.heap X
 have his:=his (model prog w) s.heap X
 have hsub:=hsub (model prog w) s.heap X
 obtain ⟨h0,g,d,tt,os⟩:=s
 have L0:=I.type (M:=model prog w)
 have LI:Looks (model prog w) h0 (isInstance (.ref x) c) false:=L0.andThen hsub
 unfold Builtin.«isinstance.nested»
 refine tqa (L0.at ?_)
 rw [if_neg (fun q=>by rw [hne] at q;exact Bool.noConfusion q)]
 refine tqa (hty.at ?_)
 rw [if_pos (by decide)]
 k_delta "plainIsInstance"
 refine tqa (tqa (his.at ?_))
 simp only [Bool.not_true,Bool.false_eq_true,if_false]
 refine tqa (LI.at ?_)
 simp only [Bool.false_eq_true,if_false]
 refine tqa (zY X I hg ?_)
 refine tqa (hisD.at ?_)
 simp only [Bool.not_true,Bool.false_eq_true,if_false]
 refine tqa (wpAny_rule ?_)
 refine hsub.at ?_
 exact tqb h
theorem B3 {D:Addr}{Q:Value->Shared->Prop}(X:K.In s.heap)(I:InstAt s.heap x ox C od)(hg:mx K C=true)(e:kin_not K C D=true)(h:Q (.bool false) {s with toks:=s.toks+1}):wpAny (model prog w) A (call (.builtin "isinstance") [.ref x,.ref D]) Q E s:=by
 unfold kin_not at e
 rw [Bool.and_eq_true,Bool.and_eq_true,Bool.and_eq_true] at e
 obtain ⟨⟨⟨e0,e1⟩,e2⟩,e3⟩:=e
 refine EB X I hg (fun _ h' X'=>looks_typeIn X' (beq_iff_eq.mp e2)) (fun _ h' X'=>?_) ?_ (fun _ h' X'=>looks_subIn X' (beq_iff_eq.mp e3)) h
 ·unfold clsIn at e1
  split at e1
  ·rename_i c' d' cd' sl' ho
   intro A' Q' E' s' k q
   unfold isType loadHead
   exact tqa (wpAny_loadPart (k _ _ (X' _ _ ho)) (tqb q))
  ·cases e1
 ·exact Bool.eq_false_iff.mpr fun q=>of_decide_eq_true e0 (Value.ref.inj (beq_iff_eq.mp q))
theorem EC {T:String}{Q:Value->Shared->Prop}(X:K.In s.heap)(I:InstAt s.heap x ox C od)(hty:typeOf (.type T)=pure (.type "type"))(hm:mroIn K C (.type T)=some true)(h:Q (.bool true) s):wpAny (model prog w) A (call (.builtin "isinstance") [.ref x,.type T]) Q E s:=by
 refine call_isinstance_of ?_ (by intro q;cases q)
 have L1:=looks_mroIn (M:=model prog w) X hm
 obtain ⟨h0,g,d,tt,os⟩:=s
 have L0:=I.type (M:=model prog w)
 have LI:Looks (model prog w) h0 (isInstance (.ref x) (.type T)) true:=L0.andThen L1
 unfold Builtin.«isinstance.nested»
 refine tqa (L0.at ?_)
 rw [if_neg (by intro q;cases beq_iff_eq.mp q)]
 refine tqa (wpAny_of_eq hty ?_)
 rw [if_pos (by decide)]
 k_delta "plainIsInstance"
 refine tqa (tqa (wpAny_of_eq (a:=true) rfl ?_))
 simp only [Bool.not_true,Bool.false_eq_true,if_false]
 refine tqa (LI.at ?_)
 simp only [if_true]
 exact tqb (tqb h)
end
end LD
namespace LD
open PySem PySem.Spec PyProof.Rows L2
def eO (f:Nat)(c:Call)(s:GA):GE:=fun Z M=>match s Z M with
 |.ok ds M=>c f ds M
 |_=>.bad
def Ff (k:D->Mem->Res Fl)(Z:Env):Res D->Res Fl
 |.ok d M=>k d M
 |.err x M=>.ok (.exc x Z) M
 |.bad=>.bad
def jv (a:GE):GS:=fun Z M=>Ff (fun _ M=>.ok (.next Z) M) Z (a Z M)
def CF (t:dN)(a:GE):GS:=fun Z M=>Ff (fun x M=>(dg M (dw t x Z)).bind fun ρ1 M=>.ok (.next ρ1) M) Z (a Z M)
def jQ (c:Nat)(s:GA):GS:=fun Z M=>match s Z M with
 |.ok ds M=>if ds.length<=sz then .ok (.exc (.exc c none) Z) M else .bad
 |_=>.bad
def cW (o:Option Nat)(a:GE):GE:=fun Z M=>(a Z M).bind fun x M=>match x with
 |.exc c _=>.ok (.bl (match o with|some k=>k==c|none=>true)) M
 |_=>.bad
def Az (i:Nat):Fl->Mem->Res Fl
 |.next Z,M=>.ok (.next (Z.set i none)) M
 |.ret d,M=>.ok (.ret d) M
 |.exc _ _,_=>.bad
def KA (i:Nat)(h:GS):Fl->Mem->Res Fl
 |.exc x Z,M=>(h (Z.set i (some x)) M).bind (Az i)
 |fl,M=>.ok fl M
def q9 (b:GS)(i:Nat)(h:GS):GS:=fun Z M=>(b Z M).bind (KA i h)
def tEx (fa:Fa)(X:Cx)(g:GE):TE:=fun σ H Q=>∃μ Z M,bK fa X.K μ H σ Z/\RelM fa X.K μ H M/\lA (g Z M) (bJ fa X.K μ H Q) (fun x M'=>XW fa X μ H x Z M')
abbrev DX (fa:Fa)(X:Cx)(e:Expr)(g:GE):Prop:=PE X e (tEx fa X g)
section
variable {fa:Fa}{X:Cx}{a b:Expr}{ga gb:GE}{ta:GT}{pos p:Pos}{es:List Expr}{gs:GA}{n:Nat}
theorem x_call (f:Nat){x:Str}{call:Call}(C:∀f,ir fa X.prog X.w X.K X.mg X.base n f (call f))(hr:cC (n+4) X.A)(hex:X.ex=[])(hg:Gl X x)(hm:∀ad,fa f=some ad->X.mg x=some (.ref ad))(hs:DA fa X (a::es) gs)
 (hdb:(x==("__debug__":Str))=false) (he:notStar a=true) (hpl:es.all notStar=true):DX fa X (.Call (.Name x p) (a::es) [] pos) (eO f call gs):=by
 intro pins s σ H Q I ⟨μ,Z,M,hE,hM,h⟩
 unfold eO at h
 cases eg:gs Z M with
 |err=>rw [eg] at h;exact h.elim
 |bad=>rw [eg] at h;exact h.elim
 | ok ds M1 =>
   rw [eg] at h
   have h:lA (call f ds M1) (bJ fa X.K μ H Q) (fun x M'=>XW fa X μ H x Z M'):=h
   rcases C f with hb|⟨ad,fd,ps,h1,h2,h3,h4,F⟩
   ·rw [hb] at h;exact h.elim
   ·have hl:ds.length=ps.length:=by
     by_cases hl:ds.length=ps.length
     ·exact hl
     ·rw [h4 ds M1 hl] at h;exact h.elim
    refine wpAny_Call_Name_kw (jx I hg (hm ad h1) ?_ hdb)
    refine PySem.W.callWith_K (h₀:=X.base) I.ok.mod.kin h2 (bx (hs pos pins s σ H (fun vs H1=>∃μ1,Ext μ H μ1 H1/\RelM fa X.K μ1 H1 M1/\a9 fa X.K μ1 H1 ds vs) I ⟨μ,Z,M,hE,hM,by rw [eg];exact fun vs H1 μ1 x1 m1 r1=>⟨μ1,x1,m1,r1⟩⟩) fun us s1 ⟨vs,H1,I1,r,μ1,x1,m1,r1⟩=>⟨I1.kIn,?_⟩) (cK he) (ee hpl)
    have hsp:Ft fa X.K ps.length (call f) vs H1 Q fun Cv dx H'=>∃y M' μ' C' c p,Cv=.ref C'/\Ext μ1 H1 μ' H'/\RelM fa X.K μ' H' M'/\y=.exc c p/\fa (dE c)=some C'/\yu H' c dx p/\XW fa X μ H y Z M':=by
     refine ⟨by rw [r1.length];exact hl,μ1,M1,ds,m1,r1,?_⟩
     cases ec:call f ds M1 with
     |ok d M2=>rw [ec] at h;exact bJ.ext h x1
     |err y M2=>rw [ec] at h;exact fun C dx c p H' μ' y' m ex hc hn=>⟨_,M2,μ',C,c,p,rfl,y',m,ex,hc,hn,h⟩
     |bad=>rw [ec] at h;exact h.elim
    have hl2:us.length=ps.length:=by rw [<- r.length,r1.length];exact hl
    have hb:=h3 s1 us I1.kIn (by simpa using hl2)
    rw [List.append_nil] at hb
    refine wpAny_call (codeAny_mono (F.run X.A X.stack s1 H1 ⟨us,[]⟩ us vs Q _ hr I1.env0 hb r hsp) fun r' s' hq=>?_)
    cases r' with
    | error e =>
      unfold CR at hq
      dsimp only at hq
      obtain ⟨a',C',dx,H',rfl,I',fl,y,M',μ',C2,c,p,ec,ye,m',ey,hc,hn,hw⟩:=zP I1 hex hq
      cases ec
      exact hw pins σ H' μ' s' a' C' dx c p I' (x1.trans ye) ((hE.ext x1).ext ye) m' ey hc hn fl
    | ok fl =>
      cases fl with
      |ret u=>exact I1.after hq
      |next=>exact False.elim hq
      |brk=>exact False.elim hq
      |cont=>exact False.elim hq
theorem I9 (ha:DX fa X a ga)(hs:swapsWith a none pos.line X.env=pure false):DS fa X (.Expr a pos) (jv ga):=
 jR (rj ha hs) fun D' σ H ⟨μ,Z,M,hE,hM,h⟩=>⟨μ,Z,M,hE,hM,by
  unfold jv at h
  cases e:ga Z M with
  |ok d M1=>rw [e] at h;exact fun v H1 μ1 x1 m1 r1=>h σ H1 μ1 x1 (hE.ext x1) m1
  |err x M1=>rw [e] at h;exact h
  |bad=>rw [e] at h;exact h.elim⟩
end
abbrev ml:List Value:=[.type "ValueError",.type "Exception",.type "BaseException",.type "object"]
theorem B5 {K:PySem.W.Frag}{h:Heap}{C:Addr}{bmB:List Value}{newId:String}(X:K.In h)(q:PySem.W.excIn K C bmB newId=true) :
 ∃bm N nm q bs hdct sn sub ab col dd k0 k1 k2 k3 k5 mN,h.get? C=some (excClassObj nm q C N bs bm hdct sn sub ab col dd k0 k1 k2 k3 k5 newId)/\h.Ns N mN/\mN "__init__"=none/\OwnTail h bmB bm:=by
 unfold PySem.W.excIn at q
 split at q
 ·rename_i dd cd sl ho
  split at q
  ·rename_i C' bm k0 k1 k2 k3 n k5 hm hs
   simp only [Bool.and_eq_true,beq_iff_eq,Bool.not_eq_true'] at q
   obtain ⟨⟨⟨⟨⟨rfl,rfl⟩,hdel⟩,ht⟩,hok⟩,hni⟩:=q
   obtain ⟨nm,bs,mro,ns,qn,hd,sn,sub,ab,col,del⟩:=cd
   dsimp only at hm hdel hok hni
   subst hm hdel
   have hsl:sl=#[k0,k1,k2,k3,some (.builtin n),k5]:=by
    obtain ⟨l⟩:=sl
    simp only at hs
    rw [hs]
   subst hsl
   exact ⟨bm,ns,nm,qn,bs,hd,sn,sub,ab,col,dd,k0,k1,k2,k3,k5,_,X _ _ ho,.of_isNs (PySem.W.isNs_of_in X hok),PySem.W.nsMap_none_of_in X hok hni,PySem.W.tail_of_in X ht⟩
  ·cases q
 ·cases q
theorem zB {P:Program}{w:World}{H:Hp}{h:Heap}{a:Addr}{o:HO}(x:dz P w H h a o):∃ob,h.get? a=some ob:=by
 cases o with
 |lst xs=>obtain ⟨_,_,_,_,e⟩:=x;exact ⟨_,e⟩
 |tup xs=>obtain ⟨_,_,_,ob,e,_⟩:=x;exact ⟨_,e⟩
 |dK kvs=>obtain ⟨_,_,_,_,o,_,_,e,_⟩:=x;exact ⟨_,e⟩
 |dT kvs=>obtain ⟨_,_,_,_,o,_,_,e,_⟩:=x;exact ⟨_,e⟩
 |set S n=>obtain ⟨o,_,_,_,e,_⟩:=x;exact ⟨_,e⟩
 |ins C dx fs=>obtain ⟨_,_,_,e,_⟩:=x;exact ⟨_,e⟩
 |own y=>exact x
 |xd fs=>obtain ⟨_,⟨_,_,_,e,_⟩,_⟩:=x;exact ⟨_,e⟩
 |rng lo hi=>obtain ⟨_,_,_,e⟩:=x;exact ⟨_,e⟩
 |frz ob u=>obtain ⟨e,_⟩:=x;exact ⟨_,e⟩
 |tbl ps=>exact ⟨_,x⟩
 |met f y=>exact ⟨_,x⟩
 |ext φ=>obtain ⟨_,e,_⟩:=x;exact e
theorem pR {X:Cx}{pins:List (Addr×Obj)}{σ:L2.St}{H:Hp}{s:Shared}(I:Inv X pins σ H s)(hex:X.ex=[]){e:Addr}(hn:s.heap.get? e=none):oa X e/\H e=none:=by
 refine ⟨⟨?_,fun p hp z=>?_⟩,?_⟩
 ·cases q:X.s₀.heap.get? e with
  |none=>rfl
  | some o =>
    obtain ⟨o',e'⟩:=I.base.there e o q (by rw [hex];simp)
    rw [hn] at e';cases e'
 ·have:=(I.pin p (List.mem_append_left _ hp)).1
  rw [z,hn] at this;cases this
 ·cases q:H e with
  |none=>rfl
  | some u =>
    obtain ⟨ob,z⟩:=zB (I.hok e u q)
    rw [hn] at z;cases z
section
variable {fa:Fa}{X:Cx}{a b:Expr}{ga gb:GE}{ta:GT}{pos p:Pos}{es:List Expr}{gs:GA}{n:Nat}
theorem DD (c:Nat){x:Str}{np cpos:Pos}(hx:∃C,X.mg x=some (.ref C)/\fa (dE c)=some C/\PySem.W.excIn X.K C ml "ValueError.__new__"=true)(hex:X.ex=[])(hg:Gl X x)(hc:X.calm=true)(hs:DA fa X (a::es) gs)
 (hdb:(x==("__debug__":Str))=false) (he:notStar a=true) (hpl:es.all notStar=true):DS fa X (.Raise (some (.Call (.Name x np) (a::es) [] cpos)) none pos) (jQ c gs):=by
 intro pins s σ H D' I ⟨μ,Z,M,hE,hM,h⟩
 obtain ⟨C,hmC,hfC,hin⟩:=hx
 obtain ⟨bm,N,nm,q,bs,hdct,sn,sub,ab,col,dd,k0,k1,k2,k3,k5,mN,hC,hN,hni,T⟩:=B5 I.ok.mod.kin hin
 unfold jQ at h
 cases eg:gs Z M with
 |err=>rw [eg] at h;exact h.elim
 |bad=>rw [eg] at h;exact h.elim
 | ok ds M1 =>
   rw [eg] at h
   dsimp only at h
   split at h
   ·next hz=>
    have h:XW fa X μ H (.exc c none) Z M1:=h
    refine wpAny_Raise_call_subT (nm:=nm) (q:=q) (N:=N) (bs:=bs) (hdct:=hdct) (sn:=sn) (sub:=sub) (ab:=ab) (col:=col) (dd:=dd) (k0:=k0) (k1:=k1) (k2:=k2) (k3:=k3) (k5:=k5) PySem.F.excBase_ValueError (T.hasType (by decide +kernel)) (I.ok.hd hc) (ee (es:=a::es) (by simp [he,hpl])) hni (jx I hg hmC ⟨rfl,?_⟩ hdb)
    have ar:=bx (hs cpos pins s σ H (fun vs H1=>∃μ1,Ext μ H μ1 H1/\RelM fa X.K μ1 H1 M1/\a9 fa X.K μ1 H1 ds vs) I ⟨μ,Z,M,hE,hM,by rw [eg];exact fun vs H1 μ1 x1 m1 r1=>⟨μ1,x1,m1,r1⟩⟩) (Q':=fun us s2=>([]:List (Str×Value))=[]/\us.length<=sizeLine/\s2.heap.get? C=some (excClassObj nm q C N bs bm hdct sn sub ab col dd k0 k1 k2 k3 k5 "ValueError.__new__")/\s2.heap.Ns N mN/\OwnTail s2.heap ml bm/\∀h' e,Heap.MadeExcOf s2.heap h' e (.ref C) us->X.xe (.ref e) {s2 with heap:=h'}) fun us s1 ⟨vs,H1,I1,r,μ1,x1,m1,r1⟩=>by
     refine ⟨rfl,?_,I1.bk _ _ hC,hN.keeps I1.bk,T.keeps I1.bk,fun h' e hm=>?_⟩
     ·rw [<- r.length,r1.length,<- d4];exact hz
     ·obtain ⟨t,ht,_,_⟩:=hm.there
      obtain ⟨n1,n2⟩:=pR I1 hex hm.new
      exact h pins σ H1 μ1 {s1 with heap:=h'} e C none c none (I1.kept (t':=s1.toks) hm.keeps) x1 (hE.ext x1) m1 rfl hfC rfl ⟨n1,n2,_,_,ht,rfl,rfl,rfl,.inl rfl⟩
    rw [cK he] at ar ⊢
    exact PySem.Calls.evalArgs_plain ar
   ·exact h.elim
end
end LD
namespace LD
open PySem PySem.Spec PyProof.Rows L2
structure lK (fa:Fa) (K:PySem.W.Frag):Prop where
 g:∀c C,fa (dE c)=some C->mx K C=true/\PySem.W.mroIn K C (.type "ValueError")=some true/\PySem.W.isIn K (.ref C) C=true
 d:∀c C D,fa (dE c)=some C->fa 999=some D->PySem.W.isIn K (.ref C) D=true/\PySem.W.mroIn K C (.ref D)=some true/\PySem.W.mroIn K D (.type "BaseException")=some true/\PySem.W.typeIn K (.ref D)=some (.type "type")
 n:∀c C c' C',fa (dE c)=some C->fa (dE c')=some C'->c'≠c->PySem.W.kin_not K C C'=true
section
variable {fa:Fa}{X:Cx}{pins:List (Addr×Obj)}{σ:L2.St}{H:Hp}{s:Shared}{μ:Mu}
theorem rR (I:Inv X pins σ H s){c:Nat}{p:Option Int}{v:V}(r:Rep fa X.K μ H (.exc c p) v):∃a C ox od,v=.ref a/\fa (dE c)=some C/\PySem.W.InstAt s.heap a ox C od:=by
 obtain ⟨a,C,dx,rfl,hf,hH,hn⟩:=r
 obtain ⟨⟨o,vs,h1,h2,h3,h4,h5⟩,_,_⟩:=I.hok a _ hH
 have hc:PySem.W.notCls o=true:=by unfold PySem.W.notCls;rw [h4]
 cases p with
 | none =>
   have hn:dx=none:=hn
   exact ⟨a,C,o,none,rfl,hf,h1,h2,hc,by rw [h3,hn];trivial⟩
 | some i =>
   obtain ⟨d,rfl,hd⟩:=hn
   obtain ⟨mA,⟨od,es,ep,e,_⟩,_⟩:=I.hok d _ hd
   exact ⟨a,C,o,some od,rfl,hf,h1,h2,hc,by rw [h3];exact e⟩
def qo (fa:Fa)(K:PySem.W.Frag)(o:Option Nat)(w:V)(xs:List V)(H:Hp)(Q:VK):Prop:=∃μ c p v,xs=[v,w]/\Rep fa K μ H (.exc c p) v/\Q (.bl (match o with|some k=>k==c|none=>true)) H
theorem Ew (hc:lK fa X.K){k:Nat}{D:Addr}(hD:fa (dE k)=some D):dA X (.builtin "isinstance") (qo fa X.K (some k) (.ref D)):=by
 intro pins s σ H xs us Q I r h
 obtain ⟨μ,c,p,v,rfl,hv,q⟩:=h
 obtain ⟨u,w,rfl,r1,r2⟩:=vals2 r
 obtain rfl:w=Value.ref D:=r2
 obtain ⟨a,C,ox,od,rfl,hf,IA⟩:=rR I hv
 obtain rfl:u=Value.ref a:=r1
 dsimp only at q
 by_cases hb:k=c
 ·subst hb
  rw [hD] at hf;cases hf
  rw [beq_self_eq_true] at q
  exact PySem.W.isi_call I.kIn (fun M=>IA.type) (hc.g k D hD).2.2 (by intro z;cases z) ⟨.bl true,H,I,rfl,q⟩
 ·rw [beq_eq_false_iff_ne.mpr hb] at q
  exact B3 I.kIn IA (hc.g c C hf).1 (hc.n c C k D hf hD hb) ⟨.bl false,H,I.tok _,rfl,q⟩
theorem Ez (hc:lK fa X.K){D:Addr}(hD:fa 999=some D):dA X (.builtin "isinstance") (qo fa X.K none (.ref D)):=by
 intro pins s σ H xs us Q I r h
 obtain ⟨μ,c,p,v,rfl,hv,q⟩:=h
 obtain ⟨u,w,rfl,r1,r2⟩:=vals2 r
 obtain rfl:w=Value.ref D:=r2
 obtain ⟨a,C,ox,od,rfl,hf,IA⟩:=rR I hv
 obtain rfl:u=Value.ref a:=r1
 exact PySem.W.isi_call I.kIn (fun M=>IA.type) (hc.d c C D hf hD).1 (by intro z;cases z) ⟨.bl true,H,I,rfl,q⟩
theorem Ey (hc:lK fa X.K):dA X (.builtin "isinstance") (qo fa X.K none (.ty "ValueError")):=by
 intro pins s σ H xs us Q I r h
 obtain ⟨μ,c,p,v,rfl,hv,q⟩:=h
 obtain ⟨u,w,rfl,r1,r2⟩:=vals2 r
 obtain rfl:w=Value.type "ValueError":=r2
 obtain ⟨a,C,ox,od,rfl,hf,IA⟩:=rR I hv
 obtain rfl:u=Value.ref a:=r1
 exact EC I.kIn IA (by kernel_rfl) (hc.g c C hf).2.1 ⟨.bl true,H,I,rfl,q⟩
end
section
variable {fa:Fa}{X:Cx}{a:Expr}{ga:GE}{pos p1 p2:Pos}{x:Str}
theorem rS {o:Option Nat}{w:V}{σ:L2.St}{H:Hp}{Q:VK}(h:tE fa X.K (cW o ga) σ H Q):tE fa X.K ga σ H fun v H1=>qo fa X.K o w [v,w] H1 Q:=by
 obtain ⟨μ,Z,M,hE,hM,h⟩:=h
 exact t1 hE hM h fun x M1 v H1 μ1 x1 hE1 hM1 r1 h1=>by
  cases x with
  |exc c p=>exact ⟨μ1,c,p,v,rfl,r1,bF (v:=.bl _) hM1 (bJ.ext h1 x1) rfl⟩
  |_=>exact h1.elim
theorem DP (k:Nat)(hc:lK fa X.K)(hx:∃D,X.mg x=some (.ref D)/\fa (dE k)=some D)(ha:DE fa X a ga)(hg:Gl X "isinstance")(hm:X.mg "isinstance"=none)(hgt:Gl X x)(hdb:(x==("__debug__":Str))=false)
 (he:starEach [a,.Name x p1] X.env=(false,eval a X.env)::starEach [.Name x p1] X.env):DE fa X (.Call (.Name "isinstance" p2) [a,.Name x p1] [] pos) (cW (some k) ga):=by
 obtain ⟨D,h1,h2⟩:=hx
 exact cq (jw (Ew (fa:=fa) hc h2) hg hm (by decide +kernel) (cN ha (cN (l7 hgt h1 (v:=.ref D) rfl hdb) fb (by rfl)) he) (by decide) (by decide) he (by rfl)) fun σ H Q h=>rS h
theorem DQ (hc:lK fa X.K)(hx:∃D,X.mg x=some (.ref D)/\fa 999=some D)(ha:DE fa X a ga)(hg:Gl X "isinstance")(hm:X.mg "isinstance"=none)(hgt:Gl X x)(hdb:(x==("__debug__":Str))=false)
 (he:starEach [a,.Name x p1] X.env=(false,eval a X.env)::starEach [.Name x p1] X.env):DE fa X (.Call (.Name "isinstance" p2) [a,.Name x p1] [] pos) (cW none ga):=by
 obtain ⟨D,h1,h2⟩:=hx
 exact cq (jw (Ez (fa:=fa) hc h2) hg hm (by decide +kernel) (cN ha (cN (l7 hgt h1 (v:=.ref D) rfl hdb) fb (by rfl)) he) (by decide) (by decide) he (by rfl)) fun σ H Q h=>rS h
end
theorem vS {prog:Program}{w:World}{A:Around}{E:Value->Shared->Prop}{s:Shared}{K:PySem.W.Frag}{x C D:Addr}{ox:Obj}{od:Option Obj}{Q:Bool->Shared->Prop}(X:K.In s.heap)(I:PySem.W.InstAt s.heap x ox C od)
 (hD:PySem.W.mroIn K D (.type "BaseException")=some true) (hT:PySem.W.typeIn K (.ref D)=some (.type "type")) (hs:PySem.W.mroIn K C (.ref D)=some true) (h:Q true s):wpAny (model prog w) A (excMatches (.ref x) (.ref D)) Q E s:=by
 obtain ⟨hh,g,d,t,os⟩:=s
 have LS:=PySem.W.looks_mroIn (M:=model prog w) X hs
 have LB:=PySem.W.looks_mroIn (M:=model prog w) X hD
 have LT:=PySem.W.looks_typeIn (M:=model prog w) X hT
 have f:=tc_notTuple
 obtain ⟨cd,hc,_⟩:=Option.bind_eq_some_iff.mp hD
 unfold PySem.W.clsIn at hc
 split at hc
 ·rename_i c' d' cd' sl' ho
  have hDo:=X _ _ ho
  have LI:PySem.W.Looks (model prog w) hh (isType (.ref D)) true:=fun A' Q' E' s' k q=>by
   unfold isType loadHead
   exact tqa (wpAny_loadPart (k _ _ hDo) (tqb q))
  unfold excMatches
  refine tqa (show wpAny _ _ (isInstance (.ref D) (.type "tuple")) _ _ _ from tqa (LT.at (wpAny_of_eq f ?_)))
  simp only [Bool.false_eq_true,if_false]
  repeat (first|with_reducible refine tqa (LI.at ?_)|with_reducible refine LB.at ?_|with_reducible refine LS.at ?_|with_reducible refine wpAny_loadPart_at I.at_ ?_|wp_step)
  rw [I.cls]
  refine LS.at ?_
  repeat (first|exact h|wp_step)
 ·cases hc
theorem yg {M:Model}{A:Around}{E:Value->Shared->Prop}{New:Addr->Prop}{C a:Addr}{dx:Option Addr}{H:Hp}{s:Shared}{Q:Unit->Shared->Prop}(f:og New C dx a s.heap H)(h:Q () s):wpAny M A (setFlight (.ref a) none) Q E s:=by
 obtain ⟨_,_,o,vs,h1,_,_,h4,tr⟩:=f
 unfold setFlight
 rcases tr with t|⟨T,oT,ts,t1,_,_,_,t5,t6,t7⟩
 ·refine tqa (tqf h1 h4 t ?_)
  rw [if_neg (by decide)]
  exact tqb h
 ·refine tqa (tqf h1 h4 t1 ?_)
  rw [if_pos (show (Value.ref T != Value.none)=true from by simp)]
  refine wpAny_setField t5 t6 (Array.getElem?_eq_some_iff.mp t7).1 ?_
  have e:=Heap.update_setField_same s.heap T oT ts 3 .none t5 t6 t7
  show Q () {s with heap:=s.heap.update T (Obj.mapFields (·.setIfInBounds 3 .none))}
  rw [e];exact h
section
variable {X:Cx}{pins:List (Addr×Obj)}{σ:L2.St}{H:Hp}{s:Shared}
theorem wD {M:Model}{A:Around}{E:Value->Shared->Prop}{i:Nat}{x:Str}{ps:Pos}{Q:Unit->Shared->Prop}(I:Inv X pins σ H s)(hN:X.N.Nodup)(hi:X.N[i]?=some x)(hk:X.env.scope.names.lookup x=some .local)
 (h:∀s',Inv X pins (σ.set i none) H s'->Q () s'):wpAny M A (do bindName X.env x .none;unbindBehindTheSuite X.env x ps) Q E s:=by
 obtain ⟨m,hn,hl⟩:=id I.loc
 have hcls:(X.env.scope.kind==.class||(X.env.scope.kind==.module&&X.env.locals != X.env.globals))=false:=by rw [I.ok.kind];rfl
 refine wpAny_nameGoes_keeps hk hn hcls fun h' v hn' hs=>h _ ?_
 obtain ⟨oL,_,_,hoL,_⟩:=id hn
 have n0:∀b o,X.s₀.heap.get? b=some o->b≠X.env.locals:=fun b o e=>tqk (tqi (tqd e) I.ok.above)
 refine ⟨I.ok,I.os,I.bare,⟨fun b o e n hb hx=>?_,fun b o e n hb hx=>?_,I.base.free,fun b o e hx=>?_,I.base.tups,I.base.frzs,I.base.tbls⟩,⟨_,hn',fun j y v' e1 e2 e3=>?_⟩,fun y c e=>?_,I.free,I.freeC,fun p hp=>?_,fun b ob e=>?_,by simpa using I.len⟩
 ·exact (hs.2 b (n0 b o e)).trans (I.base.keep b o e n hb hx)
 ·obtain ⟨sl,e1⟩:=I.base.slot b o e n hb hx
  exact ⟨sl,(hs.2 b (n0 b o e)).trans e1⟩
 ·obtain ⟨o',e1⟩:=I.base.there b o e hx
  exact ⟨o',(hs.2 b (n0 b o e)).trans e1⟩
 ·by_cases hj:j=i
  ·subst hj
   by_cases hlt:j<σ.length
   ·rw [List.getElem?_set_self hlt] at e2;cases e2
   ·rw [List.getElem?_eq_none (by simpa using hlt)] at e2;cases e2
  ·rw [List.getElem?_set_ne (Ne.symm hj)] at e2
   obtain ⟨u',r',q⟩:=hl j y v' e1 e2 e3
   refine ⟨u',r',?_⟩
   rcases q with ⟨k,e⟩|⟨k,c,e,z⟩
   ·refine .inl ⟨k,?_⟩
    have:y≠x:=fun e=>hj (pO hN e1 (e ▸ hi))
    simp [this,e]
   ·exact .inr ⟨k,c,e,z.sameBut hs (I.cne y c e)⟩
 ·obtain ⟨w',z⟩:=I.cell y c e
  exact ⟨w',z.sameBut hs (I.cne y c e)⟩
 ·obtain ⟨e,n,ne,nf,d⟩:=I.pin p hp
  exact ⟨(hs.2 p.1 ne).trans e,n,ne,nf,d⟩
 ·refine (I.hok b ob e).stay (fun c w' hc q=>(hs.2 c ?_).trans q) (fun _ q=>q) fun _ _ q=>q
  rintro rfl
  rcases hc with hc|hc
  ·rw [<- hc,I.free] at e;cases e
  ·rw [I.free] at hc;cases hc
abbrev qM (X:Cx)(pn:List (Addr×Obj))(E:Value->Shared->Prop):Cx:={X with pn:=pn,xe:=E}
abbrev ua (X:Cx)(v:Value)(E:Value->Shared->Prop):Cx:={X with A:=X.A.mark (some v),calm:=false,xe:=E}
theorem zN (I:Inv X pins σ H s)(E:Value->Shared->Prop):Inv (qM X (X.pn++pins) E) [] σ H s:=
 ⟨⟨I.ok.mod,I.ok.kind,I.ok.glob,I.ok.blt,I.ok.above,I.ok.inj,I.ok.has,I.ok.cab,I.ok.hd,I.ok.frames,I.ok.stk,I.ok.exf,I.ok.bs,I.ok.bsz,I.ok.noex,I.ok.exfs,I.ok.funs,I.ok.frf⟩,I.os,I.bare,I.base,I.loc,I.cell,I.free,I.freeC,fun p hp=>I.pin p (by simpa using hp),I.hok,I.len⟩
theorem jV {E:Value->Shared->Prop}{pins':List (Addr×Obj)}(I:Inv (qM X (X.pn++pins) E) pins' σ H s):Inv X pins σ H s:=
 ⟨⟨I.ok.mod,I.ok.kind,I.ok.glob,I.ok.blt,I.ok.above,I.ok.inj,I.ok.has,I.ok.cab,I.ok.hd,I.ok.frames,I.ok.stk,I.ok.exf,I.ok.bs,I.ok.bsz,I.ok.noex,I.ok.exfs,I.ok.funs,I.ok.frf⟩,I.os,I.bare,I.base,I.loc,I.cell,I.free,I.freeC,fun p hp=>I.pin p (List.mem_append_left _ hp),I.hok,I.len⟩
theorem sU (I:Inv X pins σ H s)(v:Value)(E:Value->Shared->Prop):Inv (ua X v E) pins σ H s:=
 ⟨⟨I.ok.mod,I.ok.kind,I.ok.glob,I.ok.blt,I.ok.above,I.ok.inj,I.ok.has,I.ok.cab,(fun z=>nomatch z),I.ok.frames,I.ok.stk,I.ok.exf,I.ok.bs,I.ok.bsz,I.ok.noex,I.ok.exfs,I.ok.funs,I.ok.frf⟩,I.os,I.bare,I.base,I.loc,I.cell,I.free,I.freeC,I.pin,I.hok,I.len⟩
theorem sV {v:Value}{E:Value->Shared->Prop}(hh:X.calm=true->X.A.handled=none)(I:Inv (ua X v E) pins σ H s):Inv X pins σ H s:=
 ⟨⟨I.ok.mod,I.ok.kind,I.ok.glob,I.ok.blt,I.ok.above,I.ok.inj,I.ok.has,I.ok.cab,hh,I.ok.frames,I.ok.stk,I.ok.exf,I.ok.bs,I.ok.bsz,I.ok.noex,I.ok.exfs,I.ok.funs,I.ok.frf⟩,I.os,I.bare,I.base,I.loc,I.cell,I.free,I.freeC,I.pin,I.hok,I.len⟩
end
section
variable {fa:Fa}{X:Cx}{pos np hp:Pos}{x nm:Str}{i:Nat}{body suite:List Stmt}{b0:Stmt}{gB gH:GS}
theorem bK.unset {K:PySem.W.Frag}{μ:Mu}{H:Hp}{σ:L2.St}{Z:Env}(h:bK fa K μ H σ Z)(i:Nat):bK fa K μ H (σ.set i none) (Z.set i none):=by
 refine ⟨by simp [h.len],fun j d e=>?_⟩
 by_cases hj:j=i
 ·subst hj
  by_cases hl:j<Z.length
  ·rw [List.getElem?_set_self hl] at e;cases e
  ·rw [List.getElem?_eq_none (by simpa using hl)] at e;cases e
 ·rw [List.getElem?_set_ne (Ne.symm hj)] at e
  obtain ⟨v,h1,h2⟩:=h.at' j d e
  exact ⟨v,by rw [List.getElem?_set_ne (Ne.symm hj)];exact h1,h2⟩
theorem I8 (hc:lK fa X.K)(hx:∃D,X.mg x=some (.ref D)/\fa 999=some D)(hex:X.ex=[])(hst:X.stack=X.env::X.outer)(hfr:X.env.frame=some X.env.locals)(hN:X.N.Nodup)(hi:X.N[i]?=some nm)(hl:X.env.scope.names.lookup nm=some .local)
 (hg:Gl X x) (hdb:(x==("__debug__":Str))=false) (hb:∀pn E,iq fa (qM X pn E) body gB) (hh:∀v E,iq fa (ua X v E) (b0::suite) gH) :
 DS fa X (.Try body [.ExceptHandler (some (.Name x np)) (some nm) (b0::suite) hp] [] [] pos) (q9 gB i gH):=by
 intro pins s σ H D' I ⟨μ,Z,M,hE,hM,h⟩
 obtain ⟨D,hmD,hfD⟩:=hx
 obtain ⟨fl,M1,e,q⟩:=bp h
 refine wpAny_Try_except (wpAny_mono (hb (X.pn++pins) (fun e s₁=>wpAny (model X.prog X.w) X.A (noteFrame e X.env) (fun _ s₂=>wpAny (model X.prog X.w) X.A (setFlight e none) (fun _ s₃=>wpAny (model X.prog X.w) X.A (handleBy e X.env [.ExceptHandler (some (.Name x np)) (some nm) (b0::suite) hp]) (SP X pins D') X.xe s₃) X.xe s₂) X.xe s₁) [] s σ H D' (zN I _) ⟨μ,Z,M,hE,hM,?_⟩) (fun f s1 z=>?_) fun _ _ z=>z)
 ·rw [e]
  cases fl with
  |next ρ'=>exact q
  |ret d=>exact q
  | exc y ρ1 =>
    intro pins' σ' H' μ' s' a C dx c p I1 ye hE1 hM1 ey hcC hn fl
    have I1:=I1.pins_of (pins':=[]) (fun p hp=>nomatch hp)
    have hall:∀p∈X.pn++pins,p.1≠a:=fl.1.2
    refine wq (P:=X.prog) (w:=X.w) (base:=X.base) (New:=oa (qM X (X.pn++pins) _)) (outer:=X.outer) (by rw [<- hst];exact I1.ok.frames) (by rw [<- hst];exact I1.stack) hfr fl (fun b z=>(pR I1 hex (Heap.get?_none_of_le z)).1) I1.hok (by rw [<- hst];exact I1.stkFree) fun h' ch hch u hok fl2=>?_
    have I2:Inv X pins σ' H' {s' with heap:=h'}:=BW (jV I1) (fun b hb=>⟨(hch b hb).1.1,(hch b hb).2.2,(hch b hb).1.2⟩) (by rw [hst];exact u) hok
    have hcD:=hc.d c C D hcC hfD
    obtain ⟨nw,ha,o,vs,h1,h2,h3,h4,tr⟩:=id fl2
    have hxat:wV C dx a h':=⟨o,vs,h1,h2,h3,h4,by
     rcases tr with t|⟨T,oT,ts,t,_⟩
     ·exact (Array.getElem?_eq_some_iff.mp t).1
     ·exact (Array.getElem?_eq_some_iff.mp t).1⟩
    have hnc:PySem.W.notCls o=true:=by unfold PySem.W.notCls;rw [h4]
    refine wpAny_handleBy_cons (codeAny_handlers_test (jx (sU I2 (.ref a) X.xe) hg hmD ?_ hdb)) (by intro z;cases z)
    have IA:∃od,PySem.W.InstAt h' a o C od:=by
     cases p with
     | none =>
       have hn:dx=none:=hn
       exact ⟨none,h1,h2,hnc,by rw [h3,hn];trivial⟩
     | some k =>
       obtain ⟨d,rfl,hd⟩:=hn
       obtain ⟨mA,⟨od,es,ep,ed,_⟩,_⟩:=hok d _ hd
       exact ⟨some od,h1,h2,hnc,by rw [h3];exact ed⟩
    obtain ⟨od,IA⟩:=IA
    refine vS I2.kIn IA hcD.2.2.1 hcD.2.2.2 hcD.2.1 ?_
    refine codeAny_handlers_suite_as (yg fl2 ?_)
    have I3:Inv X pins σ' (upd H' a (.ext (wV C dx a))) {s' with heap:=h'}:=sT I2 hex ha nw.1 ⟨o,vs,h1,h4⟩ hall ⟨hxat,⟨o,h1⟩,fun g1 g2 ⟨o,vs,k1,k2⟩ kk=>⟨o,vs,kk o k1,k2⟩⟩
    have xa:Ext μ' H' μ' (upd H' a (.ext (wV C dx a))):=Ext.alloc hM1 ha
    have rp:Rep fa X.K μ' (upd H' a (.ext (wV C dx a))) y (.ref a):=by
     rw [ey]
     refine ⟨a,C,dx,rfl,hcC,cn,?_⟩
     cases p with
     |none=>exact hn
     |some k=>exact let ⟨d,z1,z2⟩:=hn;⟨d,z1,by rw [aX (bz z2 ha)];exact z2⟩
    refine uz I3 hN hi (.inl hl) (v:=.ref a) rfl (fun s4 I4=>?_) (.inr hl)
    have q:aq ((gH (ρ1.set i (some y)) M1).bind (Az i)) (pe fa X μ H D'):=q
    obtain ⟨fl3,M2,e3,q3⟩:=bp q
    refine wpAny_mono (hh (.ref a) _ pins s4 (σ'.set i (some (.ref a))) (upd H' a (.ext (wV C dx a))) {nx:=fun σ2 H2=>D'.nx (σ2.set i none) H2,rt:=D'.rt} (sU I4 (.ref a) _) ⟨μ',_,M1,(hE1.ext xa).set rp,hM1.alloc ha,?_⟩) (fun f s5 z=>?_) fun _ _ z=>z
    ·rw [e3]
     cases fl3 with
     |next ρ2=>exact fun σ2 H2 μ2 x2 hE2 hM2=>q3 (σ2.set i none) H2 μ2 ((ye.trans xa).trans x2) (hE2.unset i) hM2
     |ret d=>exact bJ.ext q3 (ye.trans xa)
     |exc=>exact q3.elim
    ·dsimp only
     cases f with
     | next =>
       obtain ⟨σ5,H5,I5,z⟩:=z
       exact wD (sV I2.ok.hd I5) hN hi hl fun s6 I6=>⟨_,H5,I6,z⟩
     | ret u =>
       obtain ⟨v,σ5,H5,I5,r5,z⟩:=z
       exact wD (sV I2.ok.hd I5) hN hi hl fun s6 I6=>⟨v,_,H5,I6,r5,z⟩
     |brk=>obtain ⟨_,_,_,z⟩:=z;exact z.elim
     |cont=>obtain ⟨_,_,_,z⟩:=z;exact z.elim
 ·cases f with
  |next=>obtain ⟨σ5,H5,I5,z⟩:=z;exact wpAny_execs_nil ⟨σ5,H5,jV I5,z⟩
  |ret u=>obtain ⟨v,σ5,H5,I5,r5,z⟩:=z;exact ⟨v,σ5,H5,jV I5,r5,z⟩
  |brk=>obtain ⟨σ5,H5,I5,z⟩:=z;exact ⟨σ5,H5,jV I5,z⟩
  |cont=>obtain ⟨σ5,H5,I5,z⟩:=z;exact ⟨σ5,H5,jV I5,z⟩
end
def Fe (K:PySem.W.Frag)(cl:List (Nat×Addr))(D:Addr):Bool:=PySem.W.mroIn K D (.type "BaseException")==some true&&PySem.W.typeIn K (.ref D)==some (.type "type") &&
 cl.all fun q=>mx K q.2&&PySem.W.mroIn K q.2 (.type "ValueError")==some true&&PySem.W.isIn K (.ref q.2) q.2&&PySem.W.isIn K (.ref q.2) D&&PySem.W.mroIn K q.2 (.ref D)==some true&&cl.all fun r=>r.1==q.1||PySem.W.kin_not K q.2 r.2
def zX (l cl:List (Nat×Addr))(D:Addr):Fa:=fun i=>if i<999 then l.lookup i else if i=999 then some D else cl.lookup (i-1000)
theorem lookup_mem:∀{l:List (Nat×Addr)}{c:Nat}{C:Addr},l.lookup c=some C->(c,C)∈l
 |[],_,_,h=>by cases h
 | (a, b) :: r, c, C, h => by
   rw [List.lookup_cons] at h
   split at h
   ·next e=>cases h;rw [eq_of_beq e];exact List.mem_cons_self
   ·exact List.mem_cons_of_mem _ (lookup_mem h)
theorem mh {l cl:List (Nat×Addr)}{D:Addr}{c:Nat}{C:Addr}(h:zX l cl D (dE c)=some C):(c,C)∈cl:=by
 unfold zX dE at h
 rw [if_neg (by omega),if_neg (by omega),Nat.add_sub_cancel_left] at h
 exact lookup_mem h
theorem Fd {K:PySem.W.Frag}{l cl:List (Nat×Addr)}{D:Addr}(h:Fe K cl D=true):lK (zX l cl D) K:=by
 unfold Fe at h
 simp only [Bool.and_eq_true,beq_iff_eq,List.all_eq_true,Bool.or_eq_true] at h
 obtain ⟨⟨h1,h2⟩,h3⟩:=h
 refine ⟨fun c C e=>?_,fun c C D' e e'=>?_,fun c C c' C' e e' n=>?_⟩
 ·obtain ⟨⟨⟨⟨⟨a1,a2⟩,a3⟩,a4⟩,a5⟩,a6⟩:=h3 _ (mh e)
  exact ⟨a1,a2,a3⟩
 ·obtain ⟨⟨⟨⟨⟨a1,a2⟩,a3⟩,a4⟩,a5⟩,a6⟩:=h3 _ (mh e)
  have e':some D=some D':=e'
  cases e'
  exact ⟨a4,a5,h1,h2⟩
 ·obtain ⟨⟨⟨⟨⟨a1,a2⟩,a3⟩,a4⟩,a5⟩,a6⟩:=h3 _ (mh e)
  exact (a6 _ (mh e')).elim (fun z=>absurd z n) id
end LD
namespace LD
open PySem PySem.Spec PyProof.Rows L2 PySem.SeqAt
def qe (M:Mem)(x:D):Option (List Bool):=(gD M x).bind boolsOf
def yf (a:GE):GE:=fun Z M=>(a Z M).bind fun x M=>match qe M x with
 |some bs=>.ok (.int (bs.count true)) M
 |none=>.bad
def yd (a:GE):GE:=fun Z M=>(a Z M).bind fun x M=>match qe M x with
 |some bs=>if true∈bs then .ok (.int (bs.idxOf true)) M else .bad
 |none=>.bad
def qJ:Value->Bool
 |.bool b=>b
 |_=>false
section
variable {fa:Fa}{X:Cx}
theorem eqT {A:Around}{s:Shared}{us:List Value}{bs:List Bool}(h:us=bs.map Value.bool):∀y,y∈us.toArray->EqAt A s y (.bool true) (qJ y):=fun y hy=>by
 have hy:y∈us:=by simpa using hy
 rw [h] at hy
 obtain ⟨b,_,rfl⟩:=List.mem_map.mp hy
 have e:=EqAt.bool_bool (A:=A) (s:=s) b true
 have q:(b==true)=qJ (.bool b):=by cases b<;>rfl
 rw [<- q];exact e
theorem Mf {bs:List Bool}:(bs.map Value.bool).countP qJ=bs.count true:=by
 induction bs with
 |nil=>rfl
 |cons b r ih=>cases b<;>simp [List.countP_cons,qJ,ih]
theorem s9:∀{us:List Value}{bs:List Bool},PyProof.Rows.LSm.BoolsAre us bs->us=bs.map Value.bool:=by
 intro us bs h
 induction h with
 |nil=>rfl
 |cons _ _ ih=>simp [ih]
def Lb (fa:Fa)(K:PySem.W.Frag)(x:V)(vs:List V)(H:Hp)(Q:VK):Prop:=∃μ ds bs p ws,x=.ref p/\vs=[.bl true]/\dq K H p ws/\a9 fa K μ H ds ws/\boolsOf ds=some bs/\Q (.int (bs.count true)) H
def Jf (fa:Fa)(K:PySem.W.Frag)(x:V)(vs:List V)(H:Hp)(Q:VK):Prop:=∃μ ds bs p ws,x=.ref p/\vs=[.bl true]/\dq K H p ws/\a9 fa K μ H ds ws/\boolsOf ds=some bs/\true∈bs/\Q (.int (bs.idxOf true)) H
theorem Hx:IG X "list.count" (Lb fa X.K):=by
 intro pins s σ H x vs v us Q I rx rv h
 obtain ⟨μ,ds,bs,p,ws,rfl,rfl,hq,rl,eb,q⟩:=h
 cases rx
 obtain ⟨u,rfl,ru⟩:=vals1 rv
 obtain rfl:u=Value.bool true:=ru
 obtain ⟨its,rv,⟨o,n,e1,e2,e3,e4⟩,hz⟩:=I.list hq
 have hb:=s9 (nE eb rl rv)
 obtain ⟨oc,od,oda,osl⟩:=o
 obtain rfl:oc=.type "list":=e2
 obtain rfl:oda=.seq its.toArray n:=e4
 refine call_meets PySem.F.slot_list_count ⟨_,e1,rfl⟩ PySem.F.entry_list_count (PySem.F.args_list_count_2 _ _) (PySem.SeqAt.list_countAt p its.toArray n od osl (.bool true) qJ) ⟨e1,eqT hb,?_⟩
 have hcnt:its.toArray.toList.countP qJ=bs.count true:=by rw [hb,List.toList_toArray];exact Mf
 exact ⟨.int (bs.count true),H,I.tok _,⟨s.toks,by rw [hcnt]⟩,q⟩
theorem Hw:IG X "list.index" (Jf fa X.K):=by
 intro pins s σ H x vs v us Q I rx rv h
 obtain ⟨μ,ds,bs,p,ws,rfl,rfl,hq,rl,eb,hm,q⟩:=h
 cases rx
 obtain ⟨u,rfl,ru⟩:=vals1 rv
 obtain rfl:u=Value.bool true:=ru
 obtain ⟨its,rv,⟨o,n,e1,e2,e3,e4⟩,hz⟩:=I.list hq
 have hb:=s9 (nE eb rl rv)
 obtain ⟨oc,od,oda,osl⟩:=o
 obtain rfl:oc=.type "list":=e2
 obtain rfl:oda=.seq its.toArray n:=e4
 have hl:bs.idxOf true<bs.length:=List.idxOf_lt_length_of_mem hm
 have hl2:its.length=bs.length:=by rw [hb];simp
 have hz2:its.length<=sizeLine:=by rw [<- rv.length];exact hz
 have hs:((bs.idxOf true:Nat):Int)<2^63-1:=by
  have:sizeLine<2^62:=by decide
  omega
 have at':∀m (hm:m<its.toArray.size),qJ its.toArray[m]=bs[m]'(by simp at hm;omega):=fun m hm=>by subst hb;simp [qJ]
 refine call_meets PySem.F.slot_list_index ⟨_,e1,rfl⟩ PySem.F.entry_list_index (PySem.F.args_list_index_2 _ _) (PySem.SeqAt.list_indexAt p its.toArray n od osl (.bool true) qJ (bs.idxOf true) (by simp;omega) hs (by rw [at'];simp) fun m hm h=>?_) ⟨e1,eqT hb,?_⟩
 ·rw [at']
  have:=List.not_of_lt_findIdx (p:=(·==true)) (xs:=bs) (i:=m) h
  simpa using this
 ·exact ⟨.int (bs.idxOf true),H,I.tok _,⟨_,rfl⟩,q⟩
variable {a:Expr}{ga:GE}{apos cpos kp:Pos}{j:Nat}
theorem FN (ha:DE fa X a ga)(hbase:attributeBase a "count" X.env (eval a X.env)=eval a X.env)(hline:(apos.endLine==cpos.line)=true):DE fa X (.Call (.Attribute a "count" apos) [.Constant (.bool true) j kp] [] cpos) (yf ga):=
 cq (xh PySem.F.plainAttrs_list PySem.F.slot_list_count PySem.F.type_list_count (Hx (fa:=fa)) ha (cN xi fb (by rfl)) hbase (by rfl) hline (by rfl) (by rfl)) fun σ H Q ⟨μ,Z,M,hE,hM,h⟩=>t1 hE hM h fun x M1 v H1 μ1 x1 hE1 hM1 r1 h1=>by
  cases e3:qe M1 x with
  |none=>rw [e3] at h1;exact h1.elim
  |some bs=>
   rw [e3] at h1
   obtain ⟨ds,e,e2⟩:=Option.bind_eq_some_iff.mp e3
   obtain ⟨p,ws,rfl,hq,rl⟩:=cf hM1 r1 e
   exact ⟨.inl ⟨rfl,ws,hq⟩,μ1,ds,bs,p,ws,rfl,rfl,hq,rl,e2,bF (v:=.int _) hM1 (bJ.ext h1 x1) rfl⟩
theorem FJ (ha:DE fa X a ga)(hbase:attributeBase a "index" X.env (eval a X.env)=eval a X.env)(hline:(apos.endLine==cpos.line)=true):DE fa X (.Call (.Attribute a "index" apos) [.Constant (.bool true) j kp] [] cpos) (yd ga):=
 cq (xh PySem.F.plainAttrs_list PySem.F.slot_list_index PySem.F.type_list_index (Hw (fa:=fa)) ha (cN xi fb (by rfl)) hbase (by rfl) hline (by rfl) (by rfl)) fun σ H Q ⟨μ,Z,M,hE,hM,h⟩=>t1 hE hM h fun x M1 v H1 μ1 x1 hE1 hM1 r1 h1=>by
  cases e3:qe M1 x with
  |none=>rw [e3] at h1;exact h1.elim
  |some bs=>
   rw [e3] at h1
   obtain ⟨ds,e,e2⟩:=Option.bind_eq_some_iff.mp e3
   have h1:aq (if true∈bs then .ok (.int (bs.idxOf true)) M1 else .bad) (bJ fa X.K μ H Q):=h1
   split at h1
   ·next hm=>
    obtain ⟨p,ws,rfl,hq,rl⟩:=cf hM1 r1 e
    exact ⟨.inl ⟨rfl,ws,hq⟩,μ1,ds,bs,p,ws,rfl,rfl,hq,rl,e2,hm,bF (v:=.int _) hM1 (bJ.ext h1 x1) rfl⟩
   ·exact h1.elim
end
end LD
namespace LD
open PySem PySem.Spec PySem.Calls PyProof.Rows
section
variable {prog:Program}{w:World}{A:Around}{E:Value->Shared->Prop}{h:Heap}{g:Array GenState}{d:Drawn}{t:Nat}{os:OsState}
variable {nm q:Str}{C N:Addr}{bs bm:List Value}{hdct:Bool}{sn:List Str}{sub:List Value}{ab:Bool}{col:Option Bool}{dd:Option Addr}{k0 k1 k2 k3 k5:Option Value}
theorem B4 {e:Addr}{oe:Obj}{vs:Array Value}{u:Value}{Q:Value->Shared->Prop}(hC:h.get? C=some (excClassObj nm q C N bs bm hdct sn sub ab col dd k0 k1 k2 k3 k5 "ValueError.__new__"))(T:OwnTail h ml bm)
 (he:h.get? e=some oe) (hcls:oe.cls=.ref C) (hd:oe.data=.fields vs) {t0:Addr} (h0:vs[0]?=some (.ref t0))
 (hq:∀h' tp,(∀b o,b≠e->h.get? b=some o->h'.get? b=some o)->h'.get? e=some (oe.mapFields (·.setIfInBounds 0 (.ref tp)))->Q .none ⟨h',g,d,t,os⟩) :
 wpAny (model prog w) A (call (.builtin "ValueError.__init__") [.ref e,u]) Q E ⟨h,g,d,t,os⟩:=by
 refine wpAny_call (codeAny_call_builtin PySem.F.excBase_ValueError.init.plain PySem.F.excBase_ValueError.initEntry (wpAny_check_init_subT PySem.F.excBase_ValueError T hC he hcls ?_))
 wp_walk
 have he2:(h.push {cls:=.type "tuple",data:=.seq #[u]}).get? e=some oe:=tqc _ he
 rw [hd]
 refine tqb ?_
 rw [h0]
 refine tqb ?_
 refine tqa (wpAny_setField he2 hd (Array.getElem?_eq_some_iff.mp h0).1 ?_)
 wp_walk
 refine hq _ h.objs.size (fun b o hb e'=>?_) ?_
 ·rw [tql _ _ (Ne.symm hb)];exact tqc _ e'
 ·exact tqm _ he2 (Obj.isFreed_of_fields (Obj.data_mapFields hd _))
end
def mK:List Value->Bool
 |.ref _::r=>mK r
 |l=>l==ml
theorem uQ (self:Value):∀{l:List Value},mK l=true->refuseLoop self "__setattr__" l=pure ()
 |[],e=>absurd e (by decide)
 | a :: r, e => by
   cases a with
   |ref c=>rw [refuseLoop_ref];exact uQ self e
   | _ =>
     have q:=eq_of_beq (show (_::r==ml)=true from e)
     rw [q];exact PySem.F.store_ValueError.passes self
def tU (K:PySem.W.Frag)(C:Addr):Bool:=(PySem.W.clsIn K C).any (fun cd=>mK cd.mro)&&PySem.W.mroIn K C (.type "object")==some true
theorem Jn {prog:Program}{w:World}{A:Around}{R:Result->Shared->Prop}{s:Shared}{K:PySem.W.Frag}{x C:Addr}{ox:Obj}{od:Option Obj}{name:Str}{tk:Tok}{v:Value}(X:K.In s.heap)(J:PySem.W.InstAt s.heap x ox C od)(hp:tU K C=true)(ht:PySem.W.takerIn K C name=some none)
 (h:∀b,wpAny (model prog w) A.in1 (Builtin.ObjectAttr.storeInOwnDict (.ref x) (.ref C) (.str name tk) name v b) (fun fin s'=>match fin with|.done f=>R (.ok f) s'|.again c'=>c'.quiet=true/\codeAny (model prog w) A c' R s') (fun e s'=>R (.error e) s') s) :
 codeAny (model prog w) A (.call (.builtin "object.__setattr__") ⟨[.ref x,.str name tk,v],[]⟩) R s:=by
 unfold tU at hp
 rw [Bool.and_eq_true,beq_iff_eq] at hp
 obtain ⟨cd,hc,ho⟩:=PySem.W.any_some hp.1
 have G:=PySem.F.store_ValueError
 have ho:mK cd.mro=true:=ho
 have e0:PySem.W.Looks (model prog w) s.heap (isInstance (.ref x) (.type "object")) true:=J.type.andThen (PySem.W.looks_mroIn X hp.2)
 obtain ⟨at',ha,hr⟩:=Option.bind_eq_some_iff.mp ht
 have e1:PySem.W.Looks (model prog w) s.heap (mroOf (.ref C)) cd.mro:=(PySem.W.looks_clsIn X hc).andThen .now
 have e2:PySem.W.Looks (model prog w) s.heap (Builtin.ObjectAttr.storeTaker? at') none:=by
  cases at' with
  |none=>exact .now
  | some a =>
    obtain ⟨b,hb,hn⟩:=Option.map_eq_some_iff.mp hr
    cases b with
    |true=>cases hn
    |false=>exact (PySem.W.looks_takesIn X hb).andThen .now
 refine codeAny_call_builtin PySem.F.store_object.slot.plain G.entry (@PySem.W.check_slot (model prog w) _ _ s "object.__setattr__" "object" "__setattr__" (.ref x) [.str name tk,v] [] _ G.kind G.split e0 (G.args (.ref x) (.str name tk) v) ?_)
 rw [PySem.W.osa_eq]
 refine tqa ?_
 rw [refuse_eq]
 refine tqa (J.type.here (tqa (e1.here ?_)))
 rw [uQ _ ho]
 exact tqb (tqa (J.type.here (tqa ((PySem.W.looks_findIn X ha).here (tqa (e2.here (h _)))))))
theorem EA {prog:Program}{w:World}{A:Around}{E:Value->Shared->Prop}{s:Shared}{K:PySem.W.Frag}{x C:Addr}{ox:Obj}{name:Str}{v:Value}{vs:Array Value}{Q:Unit->Shared->Prop}(X:K.In s.heap)(J:PySem.W.InstAt s.heap x ox C none)
 (hs:PySem.W.findIn K (.ref C) "__setattr__"=some (some (.builtin "object.__setattr__"))) (hp:tU K C=true) (ht:PySem.W.takerIn K C name=some none) (hh:PySem.W.hasDictIn K C=true) (hd:ox.data=.fields vs)
 (h:∀h' d,s.heap.objs.size<=d->h'.Ns1 d (fun y=>if y=name then some v else none)->h'.get? x=some {ox with dict:=some d}->(∀b o,b≠x->s.heap.get? b=some o->h'.get? b=some o)->Q () {s with heap:=h',toks:=s.toks+2}) :
 wpAny (model prog w) A (setAttr (.ref x) name v) Q E s:=by
 refine PySem.W.set_plain X J hs (Jn (s:={s with toks:=s.toks+1}) X J hp ht fun b=>?_)
 obtain ⟨cd,hc,hd'⟩:=PySem.W.any_some hh
 have hx:=J.at_
 obtain ⟨oc,odi,oda,osl⟩:=ox
 obtain rfl:oc=.ref C:=J.cls
 obtain rfl:oda=.fields vs:=hd
 have hdi:odi=none:=by
  have:=J.dict
  cases odi with
  |none=>rfl
  |some d=>exact this.elim
 subst hdi
 refine tqa (tqb (tqa (tqa (wpAny_loadPart hx (tqa (PySem.W.Looks.here (s:={s with toks:=s.toks+1}) (PySem.W.looks_clsIn X hc) ?_))))))
 rw [hd']
 show wpAny _ _ (alloc {cls:=.type "dict",data:=.dict #[]} >>= fun d=>update x (fun o=>{o with dict:=some d}) >>= fun _=>(pure (some d):Sem (Option Addr))) _ _ _
 refine tqa (wpAny_alloc ?_)
 have hx2:(s.heap.push {cls:=.type "dict",data:=.dict #[]}).get? x=some ⟨.ref C,none,.fields vs,osl⟩:=tqc _ hx
 refine tqa (wpAny_update hx2 (tqb ?_))
 have hdx:s.heap.objs.size≠x:=Nat.ne_of_gt (tqd hx)
 have e1:(s.heap.push {cls:=.type "dict",data:=.dict #[]}).get? s.heap.objs.size=some {cls:=.type "dict",data:=.dict #[]}:=tqe s.heap rfl
 have e2:((s.heap.push {cls:=.type "dict",data:=.dict #[]}).update x (fun o=>{o with dict:=some s.heap.objs.size})).get? s.heap.objs.size=some {cls:=.type "dict",data:=.dict #[]}:=(tql _ _ (Ne.symm hdx)).trans e1
 have e3:((s.heap.push {cls:=.type "dict",data:=.dict #[]}).update x (fun o=>{o with dict:=some s.heap.objs.size})).Ns s.heap.objs.size (fun _=>none):=⟨_,#[],_,e2,rfl,(fun e he=>absurd he (by simp)),fun _=>rfl⟩
 have e4:=tqm (fun o=>{o with dict:=some s.heap.objs.size}) hx2 rfl
 refine tqa (tqb (tqa ?_))
 refine wpAny_nsSet1 (Heap.Ns1.of_empty e3) fun h' hn2 hs2=>?_
 obtain ⟨oD,esD,epD,hoD,hdD,hcD⟩:=hn2.count (PySem.Within.cons name v PySem.Within.nil)
 refine tqa (wpAny_lookBehind hoD (by rw [hdD];exact pastItsLine_dict (tqh hcD (by show 1<=sizeLine+1;omega))) ?_)
 refine tqb (h _ s.heap.objs.size (tqg _) hn2 ((hs2.2 _ (Ne.symm hdx)).trans e4) fun b o hb e=>?_)
 rw [hs2.2 b (tqk (tqd e)),tql _ _ (Ne.symm hb)]
 exact tqc _ e
end LD
namespace LD
open PySem PySem.Spec PyProof.Rows L2
def fit (z:Str)(i:Int)(y:Str):Prop:=i.natAbs.log2<1920/\(z++(toString i:Str)).length<=sizeLine/\(z++(toString i:Str)++y).length<=sizeLine
section
variable {X:Cx}{a:Expr}{ta:TE}{pos p1 p2 p3:Pos}{j j2:Nat}{z y:Str}
def Ke (z y:Str)(ta:TE):TE:=fun σ H Q=>z.length<=sizeLine/\ta σ H fun v H1=>∃i,v=.int i/\fit z i y/\Q (.str (z++(toString i:Str)++y)) H1
theorem tB (z:Str):Str.empty++z=z:=by
 cases z with
 |mk c=>show Str.mk (#[]++c)=_;simp
theorem yr (z:Str):z++Str.empty=z:=by
 cases z with
 |mk c=>show Str.mk (c++#[])=_;simp
theorem Jk (ha:PE X a ta):PE X (.JoinedStr [.Constant (.str z) j p1,.FormattedValue a (-1) none p2,.Constant (.str y) j2 p3] pos) (Ke z y ta):=by
 intro pins s σ H Q I ⟨hz,h⟩
 refine JoinedStr_many (joinParts_cons (Calls.Constant_str ?_))
 show (Str.empty++z).length<=sizeLine/\_
 rw [tB]
 refine ⟨hz,joinParts_cons (FormattedValue_plain (bx (ha pins _ σ H _ (I.tok _) h) fun u s1 ⟨v,H1,I1,r1,i,ev,⟨f1,f2,f3⟩,q⟩=>?_))⟩
 subst ev
 obtain ⟨t,rfl⟩:=r1
 refine formatField_int_small f1 ⟨f2,joinParts_cons (Calls.Constant_str ⟨f3,joinParts_nil ?_ f3⟩)⟩
 exact ⟨.str _,H1,I1.tok _,⟨_,rfl⟩,q⟩
theorem Jl (ha:PE X a ta):PE X (.JoinedStr [.Constant (.str z) j p1,.FormattedValue a (-1) none p2] pos) (Ke z Str.empty ta):=by
 intro pins s σ H Q I ⟨hz,h⟩
 refine JoinedStr_many (joinParts_cons (Calls.Constant_str ?_))
 show (Str.empty++z).length<=sizeLine/\_
 rw [tB]
 refine ⟨hz,joinParts_cons (FormattedValue_plain (bx (ha pins _ σ H _ (I.tok _) h) fun u s1 ⟨v,H1,I1,r1,i,ev,⟨f1,f2,f3⟩,q⟩=>?_))⟩
 subst ev
 obtain ⟨t,rfl⟩:=r1
 refine formatField_int_small f1 ⟨f2,joinParts_nil ?_ f2⟩
 have e:z++(toString i:Str)++Str.empty=z++(toString i:Str):=by
  exact yr _
 rw [e] at q
 exact ⟨.str _,H1,I1.tok _,⟨_,rfl⟩,q⟩
end
def fM (C:Addr)(dx:Option Addr)(a:Addr)(h:Heap):Prop:=∃o vs t0,h.get? a=some o/\o.cls=.ref C/\o.dict=dx/\o.data=.fields vs/\vs[0]?=some (.ref t0)/\vs[1]?=some .none
def lg (K:PySem.W.Frag)(C:Addr)(fI:Addr):Bool:=match K.lookup C with
 | some ⟨.type "type", _, .cls cd, sl⟩ => (match cd.mro, sl.toList with
   |.ref C'::bm,[_,_,_,_,some (.builtin n),_]=>C'==C&&n=="ValueError.__new__"&&!cd.hasDel&&PySem.W.tailIn K ml bm&&PySem.W.nsOkIn K cd.ns&&PySem.W.nsIn K cd.ns "__init__"==some (some (.ref fI))
   |_,_=>false)
 |_=>false
theorem xt {K:PySem.W.Frag}{h:Heap}{N:Addr}{x:Str}{v:Value}{mg:Str->Option Value}(X:K.In h)(G:h.Ns N mg)(e:PySem.W.nsIn K N x=some (some v)):mg x=some v:=by
 obtain ⟨o,es,ep,ho,hd,_,hf⟩:=G
 unfold PySem.W.nsIn at e
 split at e
 ·rename_i c d es' n' sl q
  have:=X _ _ q
  rw [ho] at this
  cases this
  cases hd
  split at e
  ·rename_i en he
   cases e
   rw [<- hf]
   unfold nsFind findBy
   rw [<- Array.find?_toList,he]
   rfl
  ·split at e<;>cases e
 ·cases e
theorem nV {K:PySem.W.Frag}{h:Heap}{C fI:Addr}(X:K.In h)(q:lg K C fI=true) :
 ∃bm N nm q bs hdct sn sub ab col dd k0 k1 k2 k3 k5 mN,h.get? C=some (excClassObj nm q C N bs bm hdct sn sub ab col dd k0 k1 k2 k3 k5 "ValueError.__new__")/\h.Ns N mN/\mN "__init__"=some (.ref fI)/\OwnTail h ml bm:=by
 unfold lg at q
 split at q
 ·rename_i dd cd sl ho
  split at q
  ·rename_i C' bm k0 k1 k2 k3 n k5 hm hs
   simp only [Bool.and_eq_true,beq_iff_eq,Bool.not_eq_true'] at q
   obtain ⟨⟨⟨⟨⟨rfl,rfl⟩,hdel⟩,ht⟩,hok⟩,hni⟩:=q
   obtain ⟨nm,bs,mro,ns,qn,hd,sn,sub,ab,col,del⟩:=cd
   dsimp only at hm hdel hok hni
   subst hm hdel
   have hsl:sl=#[k0,k1,k2,k3,some (.builtin "ValueError.__new__"),k5]:=by
    obtain ⟨l⟩:=sl
    simp only at hs
    rw [hs]
   subst hsl
   exact ⟨bm,ns,nm,qn,bs,hd,sn,sub,ab,col,dd,k0,k1,k2,k3,k5,_,X _ _ ho,.of_isNs (PySem.W.isNs_of_in X hok),xt X (.of_isNs (PySem.W.isNs_of_in X hok)) hni,PySem.W.tail_of_in X ht⟩
  ·cases q
 ·cases q
theorem AG {H:Hp}{a:Addr}{o:HO}(h:H a=some o):upd H a o=H:=by
 funext b
 unfold upd
 split
 ·next e=>rw [e,h]
 ·rfl
section
variable {X:Cx}{a b:Expr}{ta tb:TE}{apos cpos p1 pos:Pos}{x:Str}{D:Addr}
def KU (K:PySem.W.Frag)(ta tb:TE):TE:=fun σ H Q=>ta σ H fun v H1=>tb σ H1 fun u H2=>∃e C fI,v=.ref e/\H2 e=some (.ext (fM C none e))/\lg K C fI=true/\Q .non H2
theorem qW {P:Program}{w:World}{H:Hp}{h:Heap}{C e:Addr}{dx:Option Addr}(x:fM C dx e h):dz P w H h e (.ext (fM C dx e)):=by
 refine ⟨x,let ⟨o,_,_,e,_⟩:=x;⟨o,e⟩,fun g1 g2 ⟨o,vs,t0,k1,k2⟩ kk=>⟨o,vs,t0,kk o k1,k2⟩⟩
theorem Gq {pl:Sem Bool}(hD:X.mg x=some (.ref D))(hg:Gl X x)(h1:PySem.W.readsIn X.K D (.type "type")=true)(h2:PySem.W.findCls X.K (.ref D) (.type "type") "__init__"=some (.val (.builtin "ValueError.__init__")))
 (h3:PySem.W.specialIn X.K (.ref D) "__getattribute__"=some (some (.builtin "type.__getattribute__"))) (ha:PE X a ta) (hb:PE X b tb) (he:notStar a=true) (he2:notStar b=true) (hdb:(x==("__debug__":Str))=false)
 (ht:eval (.Call (.Attribute (.Name x p1) "__init__" apos) [a,b] [] cpos) X.env=(do
  let ov <- eval (.Name x p1) X.env
  standAt apos.atName
  let (f,first) <- holding [ov] (getMethod ov "__init__" pl)
  callWith cpos f first (backTo cpos (starEach [a,b] X.env)) (backToKw cpos (keywordEach [] X.env)))) :
 PE X (.Call (.Attribute (.Name x p1) "__init__" apos) [a,b] [] cpos) (KU X.K ta tb):=by
 intro pins s σ H Q I h
 refine PySem.W.methodCall_KW (pl:=pl) (jx I hg hD ?_ hdb) ht
 refine PySem.W.method_cls I.kIn h3 (PySem.W.cls_value I.kIn h1 h2 rfl ?_)
 refine Calls.callWith_builtin (ee (es:=[a,b]) (by simp [he,he2])) ?_
 have ar:=bx ((cN ha (cN hb fb (cK he2)) (cK he)) cpos pins {s with toks:=s.toks+1} σ H (fun vs H2=>match vs with|[v,u]=>∃e C fI,v=.ref e/\H2 e=some (.ext (fM C none e))/\lg X.K C fI=true/\Q .non H2|_=>False) (I.tok _) h) (Q':=fun us s2=>wpAny (model X.prog X.w) X.A (call (.builtin "ValueError.__init__") ([]++us) []) (EP X pins σ Q) X.xe s2) fun us s1 ⟨vs,H1,I1,r,hq⟩=>by
  match vs,r,hq with
  |[],_,hq=>exact hq.elim
  |[_],_,hq=>exact hq.elim
  |_::_::_::_,_,hq=>exact hq.elim
  | [v, u], r, ⟨e, C, fI, ev, hH, hx, q⟩ =>
    subst ev
    obtain ⟨w1,w2,rfl,r1,r2⟩:=vals2 r
    obtain rfl:w1=Value.ref e:=r1
    obtain ⟨⟨o,vs,t0,k1,k2,k3,k4,k5,k6⟩,_,_⟩:=I1.hok e _ hH
    obtain ⟨bm,N,nm,qq,bs,hdct,sn,sub,ab,col,dd,c0,c1,c2,c3,c5,mN,hC,hN,hni,T⟩:=nV I1.kIn hx
    obtain ⟨hp,gg,dr,tk,os⟩:=s1
    refine B4 hC T k1 k2 k4 k5 fun h' tp kk ke=>?_
    have nw:fM C none e h':=⟨_,_,tp,ke,by rw [Obj.cls_mapFields];exact k2,by rw [nW];exact k3,Obj.data_mapFields k4 _,by simp [(Array.getElem?_eq_some_iff.mp k5).1],by rw [Array.getElem?_setIfInBounds_ne (by decide)];exact k6⟩
    have I2:=I1.write (x:=e) (e:=e) (o:=.ext (fM C none e)) (h':=h') (t':=tk) (by rw [hH];exact True.intro) (.inl rfl) (fun b u hb z=>kk b u hb z) ⟨_,ke⟩ (qW nw)
    rw [AG hH] at I2
    exact ⟨.non,H1,I2,rfl,q⟩
 rw [cK he] at ar ⊢
 exact PySem.Calls.evalArgs_plain ar
end
def setIn (K:PySem.W.Frag)(C:Addr)(fld:Str):Bool:=PySem.W.findIn K (.ref C) "__setattr__"==some (some (.builtin "object.__setattr__"))&&tU K C&&PySem.W.takerIn K C fld==some none&&PySem.W.hasDictIn K C
section
variable {X:Cx}{o value:Expr}{to tv:TE}{p' pos:Pos}{fld:Str}
def IU (K:PySem.W.Frag)(tv to:TE)(fld:Str):TS:=fun D σ H=>tv σ H fun y H1=>to σ H1 fun x H2=>∃e C i,x=.ref e/\y=.int i/\H2 e=some (.ext (fM C none e))/\setIn K C fld=true/\∀d,H2 d=none->d≠e->D.nx σ (upd (upd H2 d (.xd [(fld,.int i)])) e (.ext (fM C (some d) e)))
theorem D0 (ho:PE X o to)(hv:PE X value tv)(hs:swapsWith value (some (.Attribute o fld p')) pos.line X.env=pure false):PS X (.Assign [.Attribute o fld p'] value pos) (IU X.K tv to fld):=by
 intro pins s σ H D I h
 refine plainObj_wpAny_Assign_Attribute (bx (hv pins s σ H _ I h) fun u s1 ⟨y,H1,I1,ry,q⟩=>bx (ho pins s1 σ H1 _ I1 q) fun ov s2 ⟨x,H2,I2,rx,e,C,i,ex,ey,hH,hset,q2⟩=>?_) hs
 subst ex ey
 obtain rfl:ov=Value.ref e:=rx
 obtain ⟨t,rfl⟩:=ry
 simp only [setIn,Bool.and_eq_true,beq_iff_eq] at hset
 obtain ⟨⟨⟨g1,g2⟩,g3⟩,g4⟩:=hset
 obtain ⟨⟨ob,vs,t0,k1,k2,k3,k4,k5,k6⟩,_,_⟩:=I2.hok e _ hH
 have IA:PySem.W.InstAt s2.heap e ob C none:=⟨k1,k2,by unfold PySem.W.notCls;rw [k4],by rw [k3];trivial⟩
 refine EA I2.kIn IA g1 g2 g3 g4 k4 fun h' d hd hns hx' kk=>?_
 have hd0:H2 d=none:=I2.hok.fresh hd
 have hde:d≠e:=fun z=>by rw [z,hH] at hd0;cases hd0
 have lt:∀b o,s2.heap.get? b=some o->b≠d:=fun b o q z=>absurd (tqd q) (by rw [z];exact Nat.not_lt.mpr hd)
 have ne:∀b,H2 b=none->b≠e:=fun b q z=>by rw [z,hH] at q;cases q
 have up:∀b,b≠d->b≠e->upd (upd H2 d (.xd [(fld,.int i)])) e (.ext (fM C (some d) e)) b=H2 b:=fun b z1 z2=>by rw [aX z2,aX z1]
 have nd:∀b u,H2 b=some u->b≠d:=fun b u q=>bz q hd0
 refine ⟨σ,_,I2.un (h':=h') (t':=s2.toks+2) (H':=upd (upd H2 d (.xd [(fld,.int i)])) e (.ext (fM C (some d) e))) ⟨fun b o q n _ _=>kk b o (ne b n) q,fun b o q n _ _=>⟨o.slots,kk b o (ne b n) q⟩,fun b o q n _=>?_,fun b o q _=>?_,fun b xs q=>?_,fun b o u q=>?_,fun b ps q=>⟨#[],?_⟩⟩ fun b u q=>?_,q2 d hd0 hde⟩
 ·rw [up b (lt b o q) (ne b n)];exact n
 ·by_cases z:b=e
  ·exact ⟨_,by rw [z];exact hx'⟩
  ·exact ⟨o,kk b o z q⟩
 ·rw [up b (nd b _ q) (fun z=>by rw [z,hH] at q;cases q)];exact q
 ·rw [up b (nd b _ q) (fun z=>by rw [z,hH] at q;cases q)];exact q
 ·rw [up b (nd b _ q) (fun z=>by rw [z,hH] at q;cases q)];simpa using q
 ·by_cases z:b=e
  ·subst z
   rw [cn] at q;cases q
   exact qW ⟨_,vs,t0,hx',k2,rfl,k4,k5,k6⟩
  ·by_cases z2:b=d
   ·subst z2
    rw [aX hde,cn] at q;cases q
    refine ⟨_,hns,fun f=>?_⟩
    by_cases hf:f=fld
    ·subst hf
     simp only [List.lookup_cons,beq_self_eq_true,if_true]
     exact ⟨t,rfl⟩
    ·rw [if_neg hf]
     have:([(fld,V.int i)]:List (Str×V)).lookup f=none:=by simp [List.lookup_cons,beq_eq_false_iff_ne.mpr hf]
     rw [this];trivial
   ·rw [up b z2 z] at q
    refine (I2.hok b u q).stay (fun c v hc w=>kk c v ?_ w) (fun c w=>?_) fun c xs w=>?_
    ·rcases hc with hc|hc
     ·rw [hc];exact z
     ·intro y;rw [y,hH] at hc;cases hc
    ·rw [up c (nd c _ w) (fun y=>by rw [y,hH] at w;cases w)];exact w
    ·rw [up c (nd c _ w) (fun y=>by rw [y,hH] at w;cases w)];exact w
end
end LD
namespace LD
open PySem PySem.Spec PyProof.Rows
section
variable {prog:Program}{w:World}{A:Around}{E:Value->Shared->Prop}{h:Heap}{g:Array GenState}{d:Drawn}{t:Nat}{os:OsState}
variable {nm q:Str}{C N:Addr}{bs bm:List Value}{hdct:Bool}{sn:List Str}{sub:List Value}{ab:Bool}{col:Option Bool}{dd:Option Addr}{k0 k1 k2 k3 k5:Option Value}
theorem tG {mN:Str->Option Value}{rest:List Value}{fI:Addr}{oI:Obj}{Q:Fin->Shared->Prop}
 (hC:h.get? C=some (excClassObj nm q C N bs bm hdct sn sub ab col dd k0 k1 k2 k3 k5 "ValueError.__new__")) (T:OwnTail h ml bm) (hn:h.Ns N mN) (hi:mN "__init__"=some (.ref fI)) (hfI:h.get? fI=some oI) (hfc:oI.cls=.type "function")
 (hq:∀h' e,Heap.MadeExcOf h h' e (.ref C) rest->wpAny (model prog w) A (call (.ref fI) (.ref e::rest)) (fun r s'=>r=.none/\Q (.done (.ret (.ref e))) s') E ⟨h',g,d,t,os⟩) (hrest:rest.length<=sizeLine) :
 wpAny (model prog w) A (Builtin.«type.__call__» ⟨.ref C::rest,[]⟩) Q E ⟨h,g,d,t,os⟩:=by
 have F:=PySem.F.excBase_ValueError
 repeat (first|with_reducible refine wpAny_loadPart_at hC ?_|with_reducible refine wpAny_madeBy_exc hC ?_|wp_step)
 refine codeAny_call_builtin_code (Code.quiet_builtin _ F.quiet) (wpAny_check_new_subT F T hC ?_)
 refine codeAny_exc_new_subT F T hC ?_ hrest
 show wpAny _ _ _ _ _ _
 have kp:∀b o,h.get? b=some o->((h.push {cls:=.type "tuple",data:=.seq rest.toArray}).push {cls:=.ref C,data:=.fields #[.ref h.objs.size,.none,.none,.none,.bool false,.none]}).get? b=some o:=fun b o hb=>tqc _ (tqc _ hb)
 have hC₁:=kp _ _ hC
 have hfI₁:=kp _ _ hfI
 have hn₁:=hn.keeps kp
 have T₁:=T.keeps kp
 have hget:((h.push {cls:=.type "tuple",data:=.seq rest.toArray}).push {cls:=.ref C,data:=.fields #[.ref h.objs.size,.none,.none,.none,.bool false,.none]}).get? (h.objs.size+1)=some {cls:=.ref C,data:=.fields #[.ref h.objs.size,.none,.none,.none,.bool false,.none]}:=by heap_get
 have hcC:(Value.ref C::bm).contains (.ref C)=true:=by simp
 unfold isInstance
 repeat (first|with_reducible refine wpAny_loadPart_at hget ?_|(with_reducible refine wpAny_isSubtype_exc hC₁ ?_;rw [hcC])|wp_step)
 show wpAny _ _ (typeLookup (.ref C) _) _ _ _
 refine wpAny_typeLookup_tail hC₁ hn₁ T₁ F.mroIs F.init.lookup ?_
 rw [hi]
 refine tqo (tqa ?_)
 unfold bindSpecial
 refine tqa (wpAny_typeOf (T:="function") ⟨_,hfI₁,hfc⟩ ?_)
 rw [if_pos (by decide)]
 refine tqb (tqa (wpAny_mono (hq _ (h.objs.size+1) ⟨kp,Heap.get?_none_of_le (Nat.le_succ _),h.objs.size,hget,Heap.get?_none_of_le (tqg _),?_⟩) (fun r s' hr=>?_) fun _ _ x=>x))
 ·exact tqc _ (Heap.get?_push_at rfl rfl)
 ·obtain ⟨rfl,hQ⟩:=hr
  wp_walk
  exact hQ
theorem Al {mN:Str->Option Value}{rest:List Value}{fI:Addr}{oI:Obj}{Q:Value->Shared->Prop}
 (hC:h.get? C=some (excClassObj nm q C N bs bm hdct sn sub ab col dd k0 k1 k2 k3 k5 "ValueError.__new__")) (T:OwnTail h ml bm) (hn:h.Ns N mN) (hi:mN "__init__"=some (.ref fI)) (hfI:h.get? fI=some oI) (hfc:oI.cls=.type "function")
 (hq:∀h' e,Heap.MadeExcOf h h' e (.ref C) rest->wpAny (model prog w) (A.under (.builtin "type.__call__" ⟨.ref C::rest,[]⟩)) (call (.ref fI) (.ref e::rest)) (fun r s'=>r=.none/\Q (.ref e) s') E ⟨h',g,d,t,os⟩) (hrest:rest.length<=sizeLine) :
 wpAny (model prog w) A (call (.ref C) rest) Q E ⟨h,g,d,t,os⟩:=by
 have f1:=tc_lookup
 have f2:=tc_bind (.ref C)
 have hT:(⟨h,g,d,t,os⟩:Shared).TypeIs (.ref C) "type":=⟨_,hC,rfl⟩
 refine wpAny_call (codeAny_of_tree ?_)
 show wpAny _ _ (callAny (.ref C) _) _ _ _
 repeat (any_goals (first|assumption|with_reducible refine wpAny_loadPart_at hC ?_|wp_step))
 refine ⟨rfl,?_⟩
 refine codeAny_call_builtin_at (Code.quiet_builtin _ (by decide +kernel)) entry_typeCall (wpAny_check_type_call_sub hC (tG hC T hn hi hfI hfc (fun h' e hm=>?_) hrest))
 exact hq h' e hm
end
end LD
namespace LD
open PySem PySem.Spec PyProof.Rows L2
def Dg (x m:Str)(a b:Expr)(p1 apos cpos:Pos)(env:PySem.Env):Prop:=∃pl,eval (.Call (.Attribute (.Name x p1) m apos) [a,b] [] cpos) env=(do
 let ov <- eval (.Name x p1) env
 standAt apos.atName
 let (f,first) <- holding [ov] (getMethod ov m pl)
 callWith cpos f first (backTo cpos (starEach [a,b] env)) (backToKw cpos (keywordEach [] env)))
def Kh (C:Addr)(fld:Str):Sp:=fun vs H Q _=>∃e i,vs=[.ref e,.int i]/\H e=some (.ext (fM C none e))/\i.natAbs<2^64/\∀d,H d=none->d≠e->Q .non (upd (upd H d (.xd [(fld,.int i)])) e (.ext (fM C (some d) e)))
theorem len_app (a b:Str):(a++b).length=a.length+b.length:=by
 show (Str.append a b).length=_
 unfold Str.append Str.length
 simp
theorem zW {z y:Str}{i:Int}(hz:z.length<=1000)(hy:y.length<=1000)(hi:i.natAbs<2^64):fit z i y:=by
 have h1:i.natAbs.log2<1920:=by
  by_cases h0:i.natAbs=0
  ·rw [h0];decide
  ·exact tqi ((Nat.log2_lt h0).mpr hi) (by omega)
 have h2:((toString i:Str)).length<=1921:=PyProof.Rows.int_text_len_1921 h1
 have hs:sizeLine=16777216:=d4.symm
 refine ⟨h1,?_,?_⟩
 ·rw [len_app];omega
 ·rw [len_app,len_app];omega
section
variable {P:Program}{w:World}{K:PySem.W.Frag}{mg:Str->Option Value}{base:Heap}{qual y fld z:Str}{st:Stmt}{f C D fI:Addr}{fd:FuncData}{p1 p2 p3 p4 p5 p6 p7 p8 p9 p10 p11 p12 p13:Pos}{j:Nat}
theorem HL (F:pd K "__init__" qual st f fd)(S:hV ["self",y] ["self",y] (aV st))
 (hb:dH st=[.Expr (.Call (.Attribute (.Name "DeedError" p1) "__init__" p2) [.Name "self" p3,.JoinedStr [.Constant (.str z) j p4,.FormattedValue (.Name y p5) (-1) none p6] p7] [] p8) p9,.Assign [.Attribute (.Name "self" p10) fld p11] (.Name y p12) p13])
 (hev:∀L cd,Dg "DeedError" "__init__" (.Name "self" p3) (.JoinedStr [.Constant (.str z) j p4,.FormattedValue (.Name y p5) (-1) none p6] p7) p1 p2 p8 (envOfC qual (aV st) L f cd))
 (hz:z.length<=1000) (hyd:(y==("__debug__":Str))=false) (hyc:(y==("__classdict__":Str))=false) (v0:(aV st).names.lookup ("self":Str)=some .local) (v1:(aV st).names.lookup y=some .local)
 (hg:∀L cd,(envOfC qual (aV st) L f cd).kindOf "DeedError"=some .globalImplicit) (hD:mg "DeedError"=some (.ref D)) (h1:PySem.W.readsIn K D (.type "type")=true) (h2:PySem.W.findCls K (.ref D) (.type "type") "__init__"=some (.val (.builtin "ValueError.__init__")))
 (h3:PySem.W.specialIn K (.ref D) "__getattribute__"=some (some (.builtin "type.__getattribute__"))) (hC:lg K C fI=true) (hset:setIn K C fld=true):lV P w K mg base (iN P w) 1 f fd ["self",y] (Kh C fld):=by
 refine rV F S (fun vs H Q E ⟨e,i,ev,_⟩=>by rw [ev];rfl) fun cdv A outer s H vs Q E hr ⟨e,i,ev,hH,hi,q⟩=>?_
 subst ev
 rw [hb]
 have V0:tD (gx (iN P w) P w K mg base ["self",y] qual (aV st) f cdv A outer s H E).env.scope "self":=.inl v0
 have V1:tD (gx (iN P w) P w K mg base ["self",y] qual (aV st) f cdv A outer s H E).env.scope y:=.inl v1
 have a0:∀p,PE (gx (iN P w) P w K mg base ["self",y] qual (aV st) f cdv A outer s H E) (.Name "self" p) (AO 0):=fun p=>qs (i:=0) rfl V0
 have a1:∀p,PE (gx (iN P w) P w K mg base ["self",y] qual (aV st) f cdv A outer s H E) (.Name y p) (AO 1):=fun p=>qs (i:=1) rfl V1 hyd hyc
 obtain ⟨pl,hev⟩:=hev s.heap.objs.size cdv
 refine ⟨_,pJ (rj (Gq (pl:=pl) hD (hg _ _) h1 h2 h3 (a0 p3) (Jl (a1 p5)) rfl rfl rfl hev) rfl) (pJ (D0 (a0 p10) (a1 p12) rfl) wc),?_⟩
 refine ⟨.ref e,rfl,tqh hz (by rw [<- d4];decide),.int i,rfl,i,rfl,zW hz (by decide) hi,e,C,fI,rfl,hH,hC,?_⟩
 exact ⟨.int i,rfl,.ref e,rfl,e,C,i,rfl,rfl,hH,hset,fun d hd hde=>q d hd hde⟩
end
end LD
namespace LD
open PySem PySem.Spec PyProof.Rows L2
def mv (fa:Fa)(P:Program)(w:World)(K:PySem.W.Frag)(mg:Str->Option Value)(base:Heap)(c:Nat)(x:Str):Prop:=
 ∃C fI fd y oI,mg x=some (.ref C)/\fa (dE c)=some C/\lg K C fI=true/\PySem.W.keepIn K (.ref C)=true/\K.lookup fI=some oI/\oI.cls=.type "function"/\Binds K fd ["self",y] []/\lV P w K mg base (iN P w) 1 fI fd ["self",y] (Kh C (gq c))
section
variable {X:Cx}{pins:List (Addr×Obj)}{σ:L2.St}{H H0:Hp}{s:Shared}{fa:Fa}
theorem vR {a:Addr}{φ:Heap->Prop}(I:Inv X pins σ H s)(ha:H a=some (.ext φ))(hH:∀b,b≠a->H0 b=H b)(hz:H0 a=none):Inv X pins σ H0 s:=by
 have nn:∀b,H b=none->b≠a:=fun b q z=>by rw [z,ha] at q;cases q
 have no:∀b u,H b=some u->(∀φ,u≠.ext φ)->H0 b=some u:=fun b u q n=>by
  rw [hH b (fun z=>by rw [z,ha] at q;cases q;exact n _ rfl)];exact q
 refine ⟨I.ok,I.os,I.bare,⟨I.base.keep,I.base.slot,fun b o e n hx=>?_,I.base.there,fun b xs e=>?_,fun b o u e=>?_,fun b ps e=>?_⟩,I.loc,I.cell,?_,fun x c e=>?_,fun p hp'=>?_,fun b u e=>?_,I.len⟩
 ·have q:=I.base.free b o e n hx
  rw [hH b (nn b q)];exact q
 ·exact no _ _ (I.base.tups b xs e) (fun _ z=>nomatch z)
 ·exact no _ _ (I.base.frzs b o u e) (fun _ z=>nomatch z)
 ·obtain ⟨m,q⟩:=I.base.tbls b ps e
  exact ⟨m,no _ _ q (fun _ z=>nomatch z)⟩
 ·rw [hH _ (nn _ I.free)];exact I.free
 ·rw [hH _ (nn _ (I.freeC x c e))];exact I.freeC x c e
 ·obtain ⟨e,n,r⟩:=I.pin p hp'
  exact ⟨e,by rw [hH _ (nn _ n)];exact n,r⟩
 ·by_cases hb:b=a
  ·rw [hb,hz] at e;cases e
  ·rw [hH b hb] at e
   exact (I.hok b u e).stay (fun c v _ q=>q) (fun c q=>no _ _ q (fun _ z=>nomatch z)) fun c xs q=>no _ _ q (fun _ z=>nomatch z)
theorem Hy {c:Nat}{x:Str}{C:Addr}{i:Int}{t:Tok}{Q:Value->Shared->Prop}(J:mv fa X.prog X.w X.K X.mg X.base c x)(hr:cC 2 X.A)(hex:X.ex=[])(I:Inv X pins σ H s)(hC:X.mg x=some (.ref C))(hi:i.natAbs<2^64)
 (h:∀e d s',fa (dE c)=some C->oa X e->H e=none->H d=none->d≠e->Inv X pins σ (upd (upd H d (.xd [(gq c,.int i)])) e (.ext (fM C (some d) e))) s'->Q (.ref e) s'):wpAny (model X.prog X.w) X.A (call (.ref C) [.int i t]) Q X.xe s:=by
 obtain ⟨C',fI,fd,y,oI,m1,hf,hin,hk,hfI,hfc,hb,F⟩:=J
 rw [hC] at m1
 cases m1
 obtain ⟨bm,N,nm,q,bs,hdct,sn,sub,ab,col,dd,k0,k1,k2,k3,k5,mN,hCo,hN,hni,T⟩:=nV I.kIn hin
 obtain ⟨hp,g,dr,tk,os⟩:=s
 refine Al hCo T hN hni (I.kIn _ _ hfI) hfc (fun h' e hm=>?_) (by rw [<- d4];exact tqq rfl)
 obtain ⟨tp,ht,_,_⟩:=hm.there
 obtain ⟨n1,n2⟩:=pR I hex hm.new
 have I1:=I.kept (t':=tk) hm.keeps
 have I2:Inv X pins σ (upd H e (.ext (fM C none e))) ⟨h',g,dr,tk,os⟩:=sT I1 hex n2 n1.1 ⟨_,_,ht,rfl⟩ (fun p hp z=>by
  have:=(I.pin p hp).1
  rw [z,hm.new] at this;cases this) (qW ⟨_,_,tp,ht,rfl,rfl,rfl,rfl,rfl⟩)
 have hb':=hb ⟨h',g,dr,tk,os⟩ [.ref e,.int i t] I2.kIn rfl
 rw [List.append_nil] at hb'
 refine wpAny_call (codeAny_mono (F.run _ X.stack ⟨h',g,dr,tk,os⟩ (upd H e (.ext (fM C none e))) ⟨[.ref e,.int i t],[]⟩ [.ref e,.int i t] [.ref e,.int i] (fun v H'=>v=.non/\∃d,H d=none/\d≠e/\H'=upd (upd H d (.xd [(gq c,.int i)])) e (.ext (fM C (some d) e))) (fun _ _ _=>False) (hr.make C [.int i t] []) (I2.env0.make C [.int i t] []) hb' (.cons rfl (.cons ⟨t,rfl⟩ .nil)) ?_) fun r s' hq'=>?_)
 ·refine ⟨e,i,rfl,cn,hi,fun d hd hde=>⟨rfl,d,by rw [aX hde] at hd;exact hd,hde,?_⟩⟩
  funext b
  unfold upd
  split
  ·rfl
  ·split
   ·rfl
   ·rfl
 ·cases r with
  | error e' =>
    obtain ⟨_,_,_,_,_,_,_,_,_,_,z⟩:=hq'
    exact z.elim
  | ok fl =>
    cases fl with
    | ret u =>
      obtain ⟨v,H',I3,rv,ev,d,hd,hde,eH⟩:=I2.after hq'
      subst ev eH
      exact ⟨rv,h e d s' hf n1 n2 hd hde I3⟩
    |next=>exact False.elim hq'
    |brk=>exact False.elim hq'
    |cont=>exact False.elim hq'
end
def gMkI (c:Nat)(a:GE):GE:=fun Z M=>(a Z M).bind fun d M=>match d with
 |.int i=>if i.natAbs<2^64 then .ok (.exc c (some i)) M else .bad
 |_=>.bad
def ju (c:Nat)(a:GE):GS:=fun Z M=>match a Z M with
 |.ok (.int i) M=>if i.natAbs<2^64 then .ok (.exc (.exc c (some i)) Z) M else .bad
 |_=>.bad
def k9 (f:Str)(a:GE):GE:=fun Z M=>(a Z M).bind fun d M=>match d with
 |.exc c (some i)=>if gq c=f then .ok (.int i) M else .bad
 |_=>.bad
theorem xf {M:Model}{A:Around}{E:Value->Shared->Prop}{env:PySem.Env}{nm q:Str}{C N:Addr}{bs bm:List Value}{hdct:Bool}{sn:List Str}{sub:List Value}{ab:Bool}{col:Option Bool}{dd:Option Addr}{k0 k1 k2 k3 k5:Option Value}{newId:String}
 {s:Shared}{x:Sem Value}{Q:Flow->Shared->Prop} (hbase:bm.contains (.type "BaseException")=true) (hh:A.handled=none)
 (h:wpAny M A x (fun v s₁=>∃e o vs,v=.ref e/\s₁.heap.get? C=some (excClassObj nm q C N bs bm hdct sn sub ab col dd k0 k1 k2 k3 k5 newId)/\s₁.heap.get? e=some o/\o.cls=.ref C/\o.data=.fields vs/\vs[1]?=some .none/\E (.ref e) s₁) E s) :
 wpAny M A (raiseStmt env (some x) none) Q E s:=by
 have hcB:(Value.ref C::bm).contains (.type "BaseException")=true:=by rw [List.contains_cons,hbase,Bool.or_true]
 unfold raiseStmt
 refine tqa (wpAny_mono h (fun v s₁ h₁=>?_) fun _ _ x=>x)
 obtain ⟨e,⟨cl,od,da,sl⟩,vs,rfl,hC,he,hc,hd,h1,hE⟩:=h₁
 obtain rfl:cl=.ref C:=hc
 obtain rfl:da=.fields vs:=hd
 obtain ⟨hp,g,d,tk,os⟩:=s₁
 repeat (first|with_reducible refine wpAny_loadPart_at he ?_|with_reducible refine wpAny_loadPart_at hC ?_|(with_reducible refine wpAny_isSubtype_exc hC ?_;rw [hcB])|(with_reducible refine tqf he rfl h1 ?_)|wp_step)
 exact wpAny_raiseNew_none hh hE
section
variable {fa:Fa}{X:Cx}{a b:Expr}{ga gb:GE}{ta:GT}{pos p np cpos:Pos}{es:List Expr}{gs:GA}{n:Nat}{x:Str}
theorem B6 (c:Nat){pins:List (Addr×Obj)}{σ:L2.St}{H:Hp}{s:Shared}{Q:Value->Shared->Prop}(J:mv fa X.prog X.w X.K X.mg X.base c x)(hr:cC 2 X.A)(hex:X.ex=[])(hg:Gl X x)(ha:DE fa X a ga)(hdb:(x==("__debug__":Str))=false)(he:notStar a=true)(I:Inv X pins σ H s)
 (h:∃μ Z M,bK fa X.K μ H σ Z/\RelM fa X.K μ H M/\aq (ga Z M) fun d M'=>∃i,d=.int i/\i.natAbs<2^64/\∀H1 μ1 e d C s',Ext μ H μ1 H1->bK fa X.K μ1 H1 σ Z->RelM fa X.K μ1 H1 M'->X.mg x=some (.ref C)->fa (dE c)=some C->oa X e->H1 e=none->H1 d=none->d≠e->Inv X pins σ (upd (upd H1 d (.xd [(gq c,.int i)])) e (.ext (fM C (some d) e))) s'->Q (.ref e) s') :
 wpAny (model X.prog X.w) X.A (eval (.Call (.Name x np) [a] [] cpos) X.env) Q X.xe s:=by
 obtain ⟨μ,Z,M,hE,hM,h⟩:=h
 obtain ⟨C,fI,fd,y,oI,m1,hf,hin,hk,r⟩:=id J
 refine wpAny_Call_Name_kw (jx I hg m1 ?_ hdb)
 refine PySem.W.callWith_K (h₀:=X.base) I.ok.mod.kin hk (bx (cN ha fb (cK he) cpos pins s σ H (fun vs H1=>∃μ1 M1 i,Ext μ H μ1 H1/\RelM fa X.K μ1 H1 M1/\vs=[.int i]/\i.natAbs<2^64/\∀H1 μ1 e d C s',Ext μ H μ1 H1->bK fa X.K μ1 H1 σ Z->RelM fa X.K μ1 H1 M1->X.mg x=some (.ref C)->fa (dE c)=some C->oa X e->H1 e=none->H1 d=none->d≠e->Inv X pins σ (upd (upd H1 d (.xd [(gq c,.int i)])) e (.ext (fM C (some d) e))) s'->Q (.ref e) s') I ⟨μ,Z,M,hE,hM,bb h fun d M' ⟨i,ed,hi,k⟩ v H1 μ1 x1 m1 r1=>by
  subst ed
  obtain rfl:v=.int i:=r1
  exact ⟨μ1,M',i,x1,m1,rfl,hi,k⟩⟩) fun us s1 ⟨vs,H1,I1,r,μ1,M1,i,x1,mm,ev,hi,k⟩=>⟨I1.kIn,?_⟩) (cK he) (ee (es:=[]) rfl)
 subst ev
 cases r with
 | cons r1 r2 =>
   cases r2
   obtain ⟨t,rfl⟩:=r1
   exact Hy J hr hex I1 m1 hi fun e d s' hfa n1 n2 hd hde I3=>k H1 μ1 e d C s' x1 (hE.ext x1) mm m1 hfa n1 n2 hd hde I3
theorem A7 (c:Nat)(J:mv fa X.prog X.w X.K X.mg X.base c x)(hr:cC 2 X.A)(hex:X.ex=[])(hg:Gl X x)(hc:X.calm=true)(ha:DE fa X a ga)(hdb:(x==("__debug__":Str))=false)(he:notStar a=true):DS fa X (.Raise (some (.Call (.Name x np) [a] [] cpos)) none pos) (ju c ga):=by
 intro pins s σ H D' I ⟨μ,Z,M,hE,hM,h⟩
 obtain ⟨C,fI,fd,y,oI,m1,hf,hin,hk,r⟩:=id J
 obtain ⟨bm,N,nm,q,bs,hdct,sn,sub,ab,col,dd,k0,k1,k2,k3,k5,mN,hCo,hN,hni,T⟩:=nV I.ok.mod.kin hin
 rw [arm_exec_Raise]
 simp only [evalOpt,Option.map]
 refine tqa (wpAny_standAt (xf (C:=C) (nm:=nm) (q:=q) (N:=N) (bs:=bs) (bm:=bm) (hdct:=hdct) (sn:=sn) (sub:=sub) (ab:=ab) (col:=col) (dd:=dd) (k0:=k0) (k1:=k1) (k2:=k2) (k3:=k3) (k5:=k5) (newId:="ValueError.__new__") (T.hasType (by decide +kernel)) (I.ok.hd hc) (tqa (wpAny_mono (B6 (Q:=fun v s₁=>∃e o vs,v=.ref e/\s₁.heap.get? C=some (excClassObj nm q C N bs bm hdct sn sub ab col dd k0 k1 k2 k3 k5 "ValueError.__new__")/\s₁.heap.get? e=some o/\o.cls=.ref C/\o.data=.fields vs/\vs[1]?=some .none/\X.xe (.ref e) s₁) c J hr hex hg ha hdb he I ?_) (fun v s₃ h₃=>tqa (wpAny_standAt (tqb h₃))) fun _ _ x=>x))))
 refine ⟨μ,Z,M,hE,hM,?_⟩
 unfold ju at h
 cases eg:ga Z M with
 |err=>rw [eg] at h;exact h.elim
 |bad=>rw [eg] at h;exact h.elim
 | ok x0 M1 =>
   rw [eg] at h
   cases x0 with
   | int i =>
     dsimp only at h
     split at h
     ·next hi=>
      have h:XW fa X μ H (.exc c (some i)) Z M1:=h
      refine ⟨i,rfl,hi,fun H1 μ1 e d C' s' x1 hE1 hM1 hm hf nw he hd hde I3=>?_⟩
      rw [m1] at hm
      cases hm
      have ne:upd (upd H1 d (.xd [(gq c,.int i)])) e (.ext (fM C (some d) e)) e=some (.ext (fM C (some d) e)):=cn
      obtain ⟨⟨o,vs,t0,g1,g2,g3,g4,g5,g6⟩,_,_⟩:=I3.hok e _ ne
      have he':upd H1 d (.xd [(gq c,.int i)]) e=none:=by rw [aX (Ne.symm hde)];exact he
      have I4:Inv X pins σ (upd H1 d (.xd [(gq c,.int i)])) s':=vR I3 ne (fun b hb=>(aX hb).symm) he'
      have hMd:RelM fa X.K μ1 (upd H1 d (.xd [(gq c,.int i)])) M1:=hM1.alloc hd
      have xd:=Ext.alloc (o:=.xd [(gq c,.int i)]) hM1 hd
      exact ⟨e,o,vs,rfl,I3.bk _ _ hCo,g1,g2,g4,g6,h pins σ _ μ1 s' e C (some d) c (some i) I4 (x1.trans xd) (hE1.ext xd) hMd rfl hf ⟨d,rfl,cn⟩ ⟨nw,he',o,vs,g1,g2,g3,g4,.inl g6⟩⟩
     ·exact h.elim
   |_=>exact h.elim
def Ao (fa:Fa)(K:PySem.W.Frag)(f:Str):Prop:=∀c C,fa (dE c)=some C->gq c=f->PySem.W.hasDictIn K C=true/\PySem.W.findIn K (.ref C) f=some none
theorem DR (f:Str)(hc:lK fa X.K)(hf:Ao fa X.K f)(ha:DE fa X a ga)(hb:attributeBase a f X.env (eval a X.env)=eval a X.env):DE fa X (.Attribute a f pos) (k9 f ga):=by
 intro pins s σ H Q I ⟨μ,Z,M,hE,hM,h⟩
 obtain ⟨x0,M1,eg,h⟩:=bp h
 refine E4 hb (bx (ha pins s σ H (fun v H1=>∃μ1,Ext μ H μ1 H1/\RelM fa X.K μ1 H1 M1/\Rep fa X.K μ1 H1 x0 v) I ⟨μ,Z,M,hE,hM,by rw [eg];exact fun v H1 μ1 x1 m1 r1=>⟨μ1,x1,m1,r1⟩⟩) fun u s1 ⟨v,H1,I1,rv,μ1,x1,m1,r1⟩=>?_)
 cases x0 with
 | exc c p =>
   cases p with
   |none=>exact h.elim
   | some i =>
     dsimp only at h
     split at h
     ·next ef=>
      obtain ⟨e,C,dx,rfl,hfa,hH,d,rfl,hd⟩:=r1
      obtain rfl:u=Value.ref e:=rv
      obtain ⟨⟨o,vs,h1,h2,h3,h4,h5⟩,_,_⟩:=I1.hok e _ hH
      obtain ⟨mA,hns,hl⟩:=I1.hok d _ hd
      obtain ⟨od,hod,look⟩:=sR hns
      have IA:PySem.W.InstAt s1.heap e o C (some od):=⟨h1,h2,by unfold PySem.W.notCls;rw [h4],by rw [h3];exact hod⟩
      have hlf:=hl f
      rw [ef] at hlf
      simp only [List.lookup_cons,beq_self_eq_true] at hlf
      obtain ⟨u,hu,ru⟩:=sm.some_of hlf
      obtain ⟨t,rfl⟩:=ru
      obtain ⟨f1,f2⟩:=hf c C hfa ef
      unfold getAttr
      refine tqa (wpAny_mkText (wI (s:={s1 with toks:=s1.toks+1}) (r:=.value (.int i t)) I1.kIn IA (hc.g c C hfa).1 (PySem.W.findObj_own f1 f2 rfl (by rw [look f,hu])) ?_))
      exact PySem.W.handed_on rfl ⟨.int i,H1,I1.tok _,⟨t,rfl⟩,h (.int i) H1 μ1 x1 m1 rfl⟩
     ·exact h.elim
 |_=>exact h.elim
end
end LD
namespace LD
open PySem PySem.Spec PyProof.Rows L2
theorem CG {n:Nat}{A:Around}(h:cC (n+4) A):cC 2 A:=h.mono (by omega)
def inC (s:Stmt):Stmt:=match s with
 |.ClassDef _ _ _ (b::_) _ _ _ _ _ _ _=>b
 |_=>s
def HU (z y:Str)(a:GE):GE:=fun Z M=>(a Z M).bind fun d M=>match d with
 |.int i=>if z.length<=1000/\y.length<=1000/\i.natAbs<2^64 then .ok (.str (z++(toString i:Str)++y)) M else .bad
 |_=>.bad
theorem K5 {fa:Fa}{X:Cx}{a:Expr}{ga:GE}{pos p1 p2 p3:Pos}{j j2:Nat}{z y:Str}(ha:DE fa X a ga):DE fa X (.JoinedStr [.Constant (.str z) j p1,.FormattedValue a (-1) none p2,.Constant (.str y) j2 p3] pos) (HU z y ga):=
 cq (Jk ha) fun σ H Q ⟨μ,Z,M,hE,hM,h⟩=>by
  obtain ⟨x0,M1,eg,h1⟩:=bp h
  cases x0 with
  | int i =>
    have h1:aq (if z.length<=1000/\y.length<=1000/\i.natAbs<2^64 then .ok (.str (z++(toString i:Str)++y)) M1 else .bad) (bJ fa X.K μ H Q):=h1
    split at h1
    ·next hm=>
     refine ⟨tqh hm.1 (by rw [<- d4];decide),μ,Z,M,hE,hM,?_⟩
     rw [eg]
     intro v H1 μ1 x1 m1 r1
     obtain rfl:v=.int i:=r1
     exact ⟨i,rfl,zW hm.1 hm.2.1 hm.2.2,h1 (.str _) H1 μ1 x1 m1 rfl⟩
    ·exact h1.elim
  |_=>exact h1.elim
def HM (K:PySem.W.Frag)(C D fI:Addr)(fld:Str):Bool:=lg K C fI&&PySem.W.keepIn K (.ref C)&&PySem.W.readsIn K D (.type "type")&&(PySem.W.specialIn K (.ref D) "__getattribute__"==some (some (.builtin "type.__getattribute__")))&&setIn K C fld&&PySem.W.keepIn K (.ref fI)
theorem BX {fa:Fa}{w:World}{K:PySem.W.Frag}{mg:Str->Option Value}{h:Heap}{c:Nat}{x qual y z pm:Str}{st:Stmt}{C D fI cd:Addr}{t:Tok}{p1 p2 p3 p4 p5 p6 p7 p8 p9 p10 p11 p12 p13:Pos}{j:Nat}(X:K.In h)(G:h.Ns mainGlobals mg)
 (a:PySem.W.nsIn K mainGlobals x=some (some (.ref C))) (aD:PySem.W.nsIn K mainGlobals "DeedError"=some (some (.ref D))) (hf:fa (dE c)=some C) (b:HM K C D fI (gq c)=true) (h2:PySem.W.findCls K (.ref D) (.type "type") "__init__"=some (.val (.builtin "ValueError.__init__")))
 (l:K.lookup fI=some ⟨.type "function",none,.func (PySem.W.fnOf "__init__" qual (gp st) (dH st) (aV st) .none .none .none (.str pm t) none (.ref cd) .none),#[]⟩) (e:PySem.W.codeIn K (.ref cd) qual=true) (S:hV ["self",y] ["self",y] (aV st))
 (hb:dH st=[.Expr (.Call (.Attribute (.Name "DeedError" p1) "__init__" p2) [.Name "self" p3,.JoinedStr [.Constant (.str z) j p4,.FormattedValue (.Name y p5) (-1) none p6] p7] [] p8) p9,.Assign [.Attribute (.Name "self" p10) (gq c) p11] (.Name y p12) p13])
 (hev:∀L cd,Dg "DeedError" "__init__" (.Name "self" p3) (.JoinedStr [.Constant (.str z) j p4,.FormattedValue (.Name y p5) (-1) none p6] p7) p1 p2 p8 (envOfC qual (aV st) L fI cd))
 (hz:z.length<=1000) (hyd:(y==("__debug__":Str))=false) (hyc:(y==("__classdict__":Str))=false) (v0:(aV st).names.lookup ("self":Str)=some .local) (v1:(aV st).names.lookup y=some .local)
 (hg:∀L cd,(envOfC qual (aV st) L fI cd).kindOf "DeedError"=some .globalImplicit)
 (hbd:∀(kV doc pm:Value) (an:Option Addr) (cdv ct u1 u2:Value),bindArgs (PySem.W.fnOf "__init__" qual (gp st) (dH st) (aV st) .none kV doc pm an cdv ct) ⟨[u1,u2],[]⟩=pure ((["self",y]:List Str).zip [u1,u2])) (P:Program) (base:Heap):mv fa P w K mg base c x:=by
 simp only [HM,Bool.and_eq_true,beq_iff_eq] at b
 obtain ⟨⟨⟨⟨⟨b1,b2⟩,b3⟩,b4⟩,b5⟩,b6⟩:=b
 have F:=zV l e b6
 exact ⟨C,fI,_,y,_,PySem.W.mg_of X G a,hf,b1,b2,l,rfl,F.binds fun kV doc pm an cdv ct us hl=>Kb (p:=fun us=>bindArgs (PySem.W.fnOf "__init__" qual (gp st) (dH st) (aV st) .none kV doc pm an cdv ct) ⟨us,[]⟩=pure ((["self",y]:List Str).zip us)) (hbd kV doc pm an cdv ct) us hl,
  HL F S hb hev hz hyd hyc v0 v1 hg (PySem.W.mg_of X G aD) b3 h2 b4 b1 b5⟩
def Fc (K:PySem.W.Frag)(cl:List (Nat×Addr))(f:Str):Bool:=cl.all fun q=>!(gq q.1==f)||(PySem.W.hasDictIn K q.2&&PySem.W.findIn K (.ref q.2) f==some none)
theorem yC {K:PySem.W.Frag}{l cl:List (Nat×Addr)}{D:Addr}{f:Str}(h:Fc K cl f=true):Ao (zX l cl D) K f:=fun c C e ef=>by
 unfold Fc at h
 have:=(List.all_eq_true.mp h) _ (mh e)
 simp only [ef,beq_self_eq_true,Bool.not_true,Bool.false_or,Bool.and_eq_true,beq_iff_eq] at this
 exact this
end LD
namespace LD
open PySem PySem.Spec PyProof.Rows L2
mutual
theorem vX:∀d:D,(toPy d).hasDict=false
 |.non=>rfl
 |.bl _=>rfl
 |.int _=>rfl
 |.str _=>rfl
 |.tup ds=>by show PyData.hasDict (.tuple (bV ds))=false;rw [PyData.hasDict];exact pB ds
 |.lst ds=>by show PyData.hasDict (.list (bV ds))=false;rw [PyData.hasDict];exact pB ds
 |.frz _=>rfl
 |.cell _=>rfl
 |.fn _=>rfl
 |.exc _ _=>rfl
theorem pB:∀ds:List D,PyData.hasDictAll (bV ds)=false
 |[]=>rfl
 |d::r=>by show PyData.hasDictAll (toPy d::bV r)=false;rw [PyData.hasDictAll,vX d,pB r];rfl
end
def iZ (M:Mem)(x:D):Str:=(toPy (cP 64 M x)).shown
def ot (M:Mem)(x:D):Bool:=aK 64 (cP 64 M x)&&((toPy (cP 64 M x)).showable&&decide ((iZ M x).length<=sizeLine))
def CI:List D->Mem->Res D
 |[x],M=>if ot M x=true then .ok (.str (iZ M x)) M else .bad
 |_,_=>.bad
def gZ (s:GA):GE:=fun Z M=>(s Z M).bind fun ds M=>CI ds M
def Jd (fa:Fa)(K:PySem.W.Frag):List V->Hp->VK->Prop:=fun vs H Q=>∃μ M ds,RelM fa K μ H M/\a9 fa K μ H ds vs/\aq (CI ds M) (bJ fa K μ H Q)
section
variable {fa:Fa}{X:Cx}{a:Expr}{es:List Expr}{gs:GA}{p pos:Pos}{n:Nat}
theorem HV (hr:cC (n+4) X.A):dA X (.builtin "repr") (Jd fa X.K):=by
 intro pins s σ H xs us Q I r h
 obtain ⟨μ,M,ds,hM,rl,h⟩:=h
 match ds,rl,h with
 |[],_,h=>exact h.elim
 |_::_::_,_,h=>exact h.elim
 | [d], rl, h =>
   obtain ⟨v,rfl,hv⟩:=qm rl
   obtain ⟨u,rfl,ru⟩:=vals1 r
   have h:aq (if ot M d=true then .ok (.str (iZ M d)) M else .bad) (bJ fa X.K μ H Q):=h
   split at h
   ·next hs=>
    unfold ot at hs
    rw [Bool.and_eq_true,Bool.and_eq_true] at hs
    obtain ⟨hp,hw,hl⟩:=hs
    have hl:=of_decide_eq_true hl
    obtain ⟨as,R⟩:=jE I hM 64 64 d v u hp hv ru
    have dep:=(om 64 _ hp).2
    have un:=hr.un
    have fin:∀(h':Heap) (t:Tok) (tk:Nat),(∀(b:Addr) (o:Obj),s.heap.get? b=some o->h'.get? b=some o)->EP X pins σ Q (.str (iZ M d) t) {s with heap:=h',toks:=tk}:=fun h' t tk k=>⟨.str (iZ M d),H,I.kept k,⟨t,rfl⟩,bF (v:=.str _) hM h rfl⟩
    unfold iZ at fin hl
    have nd:=vX (cP 64 M d)
    generalize toPy (cP 64 M d)=py at R hw dep hl fin nd
    cases R with
    |none=>exact P.repr_of_none (fin _ _ _ fun _ _ e=>e)
    |bool b=>exact P.repr_of_bool (by rw [PyData.shown] at fin;exact fin _ _ _ fun _ _ e=>e)
    |int i t=>exact P.repr_of_int (by rw [PyData.showable] at hw;exact of_decide_eq_true hw) (fin _ _ _ fun _ _ e=>e)
    |str x t=>exact P.repr_of_str (fin _ _ _ fun _ _ e=>e) hl
    |list e1 e2 e3 e4=>exact repr_of_reads' (.list e1 e2 e3 e4) hw (fun z=>by rw [nd] at z;cases z) hr.gd (by omega) (fun _ _ e=>e) (fun h' t tk k=>fin h' t tk k) hl
    |tuple e1 e2 e3 e4=>exact repr_of_reads' (.tuple e1 e2 e3 e4) hw (fun z=>by rw [nd] at z;cases z) hr.gd (by omega) (fun _ _ e=>e) (fun h' t tk k=>fin h' t tk k) hl
    |dict e1 e2 e3 e4 e5=>cases nd
   ·exact h.elim
end
end LD
namespace LD
open PySem PySem.Spec PyProof.Rows L2
structure aL (p:Prop):Prop where
 h:p
section
variable {fa:Fa}{X:Cx}{a b c d elt tg iter t2 i2:Expr}{ga gb gd ge:GE}{ta tb gc:GT}{pos p p2 py spos:Pos}{es:List Expr}{gs:GA}{n:Nat}{scope:Scope}{own bn:List Str}{t u:dN}{gw gw2:GW}{i j:Nat}{x y nm:Str}{np hp apos cpos kp p1:Pos}{body suite:List Stmt}{b0:Stmt}{gB gH:GS}{j2:Nat}{p3:Pos}{z:Str}
theorem az {i:Nat}{x:Str}(hN:X.N.Nodup)(hi:X.N[i]?=some x:=by exact rfl)(hx:Loc X.env.scope x:=by first|exact .inl rfl|exact .inr rfl|exact .inr (.inl rfl)|exact .inr (.inr rfl))(hf:X.fn x=true\/X.env.scope.names.lookup x=some .local:=by first|exact .inl rfl|exact .inr rfl|exact .inr (.inl rfl)|exact .inr (.inr rfl)):aL (PG X (.Name x pos) (gT fa X.K (.one i))):=⟨EO hN hi hx hf⟩
theorem dG (hN:X.N.Nodup){l:List Nat}{ns:List Expr}{k:Nat}(h:lM X l ns)(hc:X.calm=true:=by exact rfl):aL (PG X (.Tuple ns k pos) (gT fa X.K (.tup l))):=⟨Ip hc hN h⟩
theorem eU (ha:aL (DE fa X a ga)):aL (DI fa X tg a (fS ga)):=⟨Io ha.h⟩
theorem d9 (ha:aL (DE fa X a ga))(hm:X.mg "range"=none)(hg:Gl X "range":=by exact rfl)(hs:starEach [a] X.env=[(false,eval a X.env)]:=by exact rfl):aL (DI fa X tg (.Call (.Name "range" p) [a] [] pos) (d7 ga)):=⟨EM ha.h hg hm hs⟩
theorem pw {elts:List Expr}{kk:Nat}{tp:Pos}(ha:aL (DE fa X a ga))(hm:X.mg "enumerate"=none)(hg:Gl X "enumerate":=by exact rfl)(hs:starEach [a] X.env=[(false,eval a X.env)]:=by exact rfl):aL (DI fa X (.Tuple elts kk tp) (.Call (.Name "enumerate" p) [a] [] pos) (mR ga)):=⟨EN ha.h hg hm hs⟩
theorem Ax {fa:Fa}{X:Cx}{elts:List Expr}{kk:Nat}{tp p pos:Pos}{e0 e1:Expr}{g0 g1:Env->Mem->Res D}(h0:aL (DE fa X e0 g0))(h1:aL (DE fa X e1 g1))(hm:X.mg "zip"=none)(hg:Gl X "zip":=by exact rfl)(hs0:starEach [e0,e1] X.env=[(false,eval e0 X.env),(false,eval e1 X.env)]:=by exact rfl)(hs1:starEach [e1] X.env=[(false,eval e1 X.env)]:=by exact rfl):aL (DI fa X (.Tuple elts kk tp) (.Call (.Name "zip" p) [e0,e1] [] pos) (oB g0 g1)):=⟨EK h0.h h1.h hg hm hs0 hs1⟩
theorem ag {i:Nat}{x:Str}(hN:X.N[i]?=some x:=by exact rfl)(hv:tD X.env.scope x:=by first|exact .inl rfl|exact .inr rfl|exact .inr (.inl rfl)|exact .inr (.inr rfl))(hd:(x==("__debug__":Str))=false:=by exact rfl)(hcd:(x==("__classdict__":Str))=false:=by exact rfl):aL (DE fa X (.Name x pos) (af i)):=⟨JL hN hv hd hcd⟩
theorem ak {i:Int}{j:Nat}:aL (DE fa X (.Constant (.int i) j pos) (gC (.int i))):=⟨JV⟩
theorem cI {i:Bool}{j:Nat}:aL (DE fa X (.Constant (.bool i) j pos) (gC (.bl i))):=⟨Me⟩
theorem bu {i:Str}{j:Nat}:aL (DE fa X (.Constant (.str i) j pos) (gC (.str i))):=⟨JN⟩
theorem fX {j:Nat}:aL (DE fa X (.Constant .none j pos) (gC .non)):=⟨JR⟩
theorem aE {m:Bool}{o:ph}(ha:aL (DE fa X a ga))(hb:aL (DE fa X b gb)):aL (DE fa X (.BinOp a (binOp o) b pos) (aA m o ga gb)):=⟨JZ m o ha.h hb.h⟩
theorem fY (hu:Rm X){o:iM}(ha:aL (DE fa X a ga))(hb:aL (DE fa X b gb))(hm:behindInMarks (c9 o) b=false:=by exact rfl):aL (DE fa X (.Compare a [c9 o] [b] pos) (aW o ga gb)):=⟨JX hu o ha.h hb.h hm⟩
theorem bo (hu:Rm X){o:iM}(ha:aL (DE fa X a ga))(hb:aL (DE fa X b gb))(hm:behindInMarks (c9 o) b=false:=by exact rfl):aL (DT fa X (.Compare a [c9 o] [b] pos) (aG (aW o ga gb))):=⟨Ie hu o ha.h hb.h hm⟩
theorem yA (hu:Rm X){o:iM}{o':iM}{gc:GE}(ha:aL (DE fa X a ga))(hb:aL (DE fa X b gb))(hc:aL (DE fa X d gc))(hm:lastMarks [c9 o,c9 o'] [b,d]=false:=by exact rfl):aL (DE fa X (.Compare a [c9 o,c9 o'] [b,d] pos) (lS o o' ga gb gc)):=⟨JY hu o o' ha.h hb.h hc.h hm⟩
theorem yB (hu:Rm X){o:iM}{o':iM}{gc:GE}(ha:aL (DE fa X a ga))(hb:aL (DE fa X b gb))(hc:aL (DE fa X d gc))(hm:lastMarks [c9 o,c9 o'] [b,d]=false:=by exact rfl):aL (DT fa X (.Compare a [c9 o,c9 o'] [b,d] pos) (aG (lS o o' ga gb gc))):=⟨Ig hu o o' ha.h hb.h hc.h hm⟩
theorem ij (ha:aL (DE fa X a ga)):aL (DE fa X (.UnaryOp .USub a pos) (fT ga)):=⟨JS ha.h⟩
theorem dS {rest:List Expr}(ha:aL (DE fa X a ga))(hb:aL (DE fa X (.BoolOp .And (b::rest) pos) gb)):aL (DE fa X (.BoolOp .And (a::b::rest) pos) (eT ga gb)):=⟨J0 ha.h hb.h⟩
theorem fz {op:PySem.BoolOp}(ha:aL (DE fa X a ga)):aL (DE fa X (.BoolOp op [a] pos) ga):=⟨JP ha.h⟩
theorem Fb (ha:aL (DE fa X a ga)):aL (DE fa X (.UnaryOp .Not a pos) (HR ga)):=⟨JQ ha.h⟩
theorem lW {rest:List Expr}(ha:aL (DT fa X a ta))(hb:aL (DW fa X (.BoolOp .And (b::rest) pos) tb)):aL (DW fa X (.BoolOp .And (a::b::rest) pos) (ia ta tb)):=⟨Ia ha.h hb.h⟩
theorem dY {rest:List Expr}(ha:aL (DT fa X a ta))(hb:aL (DW fa X (.BoolOp .Or (b::rest) pos) tb)):aL (DW fa X (.BoolOp .Or (a::b::rest) pos) (eJ ta tb)):=⟨JK ha.h hb.h⟩
theorem oj (ha:aL (DT fa X a ta)):aL (DW fa X (.BoolOp .And [a] pos) ta):=⟨EF ha.h⟩
theorem dU (ha:aL (DT fa X a ta)):aL (DW fa X (.BoolOp .Or [a] pos) ta):=⟨H9 ha.h⟩
theorem fk (h:aL (DW fa X a ta)):aL (DT fa X a ta):=⟨PW.pt h.h⟩
theorem bN (ha:aL (DT fa X a ta)):aL (DT fa X (.UnaryOp .Not a pos) (bT ta)):=⟨Ic ha.h⟩
theorem bA (ha:aL (DE fa X a ga))(he:∀whole,isTrue a X.env whole=(do let v <- whole;standAt a.pos;holding [v] (truthy v)):=by exact fun _=>rfl):aL (DT fa X a (aG ga)):=⟨B8 ha.h he⟩
theorem ni {c:Expr}(hc:aL (DT fa X c ta))(ha:aL (DE fa X a ga))(hb:aL (DE fa X b gb)):aL (DE fa X (.IfExp c a b pos) (ic ta ga gb)):=⟨JU hc.h ha.h hb.h⟩
theorem aT (ha:aL (DE fa X a ga))(hb:aL (DE fa X b gb))(hs:mq b:=by exact fun _ _=>rfl):aL (DE fa X (.Subscript a b pos) (aQ ga gb)):=⟨JW ha.h hb.h hs⟩
theorem dR {m:Bool}{hl:Bool}{hh:Bool}{lo hi:Option Expr}{gl gh:GE}{p2:Pos}(ha:aL (DE fa X a ga))(hlo:aL (DO fa X lo hl gl))(hhi:aL (DO fa X hi hh gh)):aL (DE fa X (.Subscript a (.Slice lo hi none p2) pos) (cY m hl hh ga gl gh)):=⟨JO m hl hh ha.h hlo.h hhi.h⟩
theorem c6 :aL (DO fa X none false (gC .non)):=⟨EJ⟩
theorem cM (ha:aL (DE fa X a ga)):aL (DO fa X (some a) true ga):=⟨EI ha.h⟩
theorem ao :aL (DA fa X [] aj):=⟨Ir⟩
theorem ae (ha:aL (DE fa X a ga))(hs:aL (DA fa X es gs))(h0:notStar a=true:=by exact rfl):aL (DA fa X (a::es) (aa ga gs)):=⟨EU ha.h hs.h (cK h0)⟩
theorem bM {k:Nat}(hs:aL (DA fa X es gs)):aL (DE fa X (.Tuple es k pos) (bh gs)):=⟨JM hs.h⟩
theorem bw {m:Bool}(hs:aL (DA fa X es gs)):aL (DE fa X (.List es pos) (ba m gs)):=⟨JT m hs.h⟩
theorem ay {f:Nat}{x:Str}{call:Call}(C:∀f,ir fa X.prog X.w X.K X.mg X.base n f (call f))(hr:cC (n+4) X.A)(hm:∀ad,fa f=some ad->X.mg x=some (.ref ad))(hs:aL (DA fa X (a::es) gs))(hg:Gl X x:=by exact rfl)(hdb:(x==("__debug__":Str))=false:=by exact rfl)(he:notStar a=true:=by exact rfl)(hpl:es.all notStar=true:=by exact rfl):aL (DE fa X (.Call (.Name x p) (a::es) [] pos) (ax f call gs)):=⟨Iv (C f) hr hg hm hs.h hdb (cK he) (ee hpl)⟩
theorem ui {i:Nat}{x:Str}{call:Call}(C:∀f,ir fa X.prog X.w X.K X.mg X.base n f (call f))(hr:cC (n+4) X.A)(hs:aL (DA fa X (a::es) gs))(hN:X.N[i]?=some x:=by exact rfl)(hv:tD X.env.scope x:=by first|exact .inl rfl|exact .inr rfl|exact .inr (.inl rfl)|exact .inr (.inr rfl))(hd:(x==("__debug__":Str))=false:=by exact rfl)(hcd:(x==("__classdict__":Str))=false:=by exact rfl)(he:notStar a=true:=by exact rfl)(hpl:es.all notStar=true:=by exact rfl):aL (DE fa X (.Call (.Name x p) (a::es) [] pos) (nS i call gs)):=⟨EV C hr hN hv hs.h hd hcd (cK he) (ee hpl)⟩
theorem cm (hm:X.mg "len"=none)(hs:aL (DA fa X (a::es) gs))(hg:Gl X "len":=by exact rfl)(he:notStar a=true:=by exact rfl)(hpl:es.all notStar=true:=by exact rfl):aL (DE fa X (.Call (.Name "len" p) (a::es) [] pos) (bD .len gs)):=⟨C7 .len JF hg hm PySem.boot_len hs.h (by decide) (by decide) (cK he) (ee hpl)⟩
theorem qa (hm:X.mg "all"=none)(hs:aL (DA fa X (a::es) gs))(hc:X.calm=true:=by exact rfl)(hg:Gl X "all":=by exact rfl)(he:notStar a=true:=by exact rfl)(hpl:es.all notStar=true:=by exact rfl):aL (DE fa X (.Call (.Name "all" p) (a::es) [] pos) (bD .all gs)):=⟨C7 .all (JG hc) hg hm (by decide +kernel) hs.h (by decide) (by decide) (cK he) (ee hpl)⟩
theorem fP (hm:X.mg "tuple"=none)(hs:aL (DA fa X (a::es) gs))(hg:Gl X "tuple":=by exact rfl)(he:notStar a=true:=by exact rfl)(hpl:es.all notStar=true:=by exact rfl):aL (DE fa X (.Call (.Name "tuple" p) (a::es) [] pos) (bD .tuple gs)):=⟨Ae .tuple Eu hg hm (by decide +kernel) hs.h (by decide) (by decide) (cK he) (ee hpl)⟩
theorem vV {m:Bool}(hm:X.mg "list"=none)(hs:aL (DA fa X (a::es) gs))(hg:Gl X "list":=by exact rfl)(he:notStar a=true:=by exact rfl)(hpl:es.all notStar=true:=by exact rfl):aL (DE fa X (.Call (.Name "list" p) (a::es) [] pos) (bD (.list m) gs)):=⟨Ae (.list m) (HW m) hg hm (by decide +kernel) hs.h (by decide) (by decide) (cK he) (ee hpl)⟩
theorem bP {t:Ty}{x:Str}{p1 p2:Pos}(ha:aL (DE fa X a ga))(hm:X.mg "isinstance"=none)(hmt:X.mg x=none)(hvt:bootBuiltins x=some (.type (tyName t)))(ht:∀c,t≠.own c:=by exact fun _ h=>nomatch h)(hg:Gl X "isinstance":=by exact rfl)(hgt:Gl X x:=by exact rfl)(hn:x≠"__name__":=by decide)(hdb:(x==("__debug__":Str))=false:=by exact rfl)(he:starEach [a,.Name x p1] X.env=(false,eval a X.env)::starEach [.Name x p1] X.env:=by exact rfl):aL (DE fa X (.Call (.Name "isinstance" p2) [a,.Name x p1] [] pos) (cb t ga)):=⟨Iu t ht ha.h hg hm (by decide +kernel) hgt hmt hvt hn hdb he⟩
theorem aR {tg:Expr}{t:dN}(ha:aL (DE fa X a ga))(hg:aL (PG X tg (gT fa X.K t)))(hs:swapsWithSole [tg] a pos.line X.env=pure false:=by exact rfl)(hw:swappedStores [tg] a X.env=pure none:=by exact rfl)(h1:(assignEach [tg] X.env).map (·.2)=[assign tg X.env]:=by exact rfl):aL (DS fa X (.Assign [tg] a pos) (aP t ga)):=⟨Il ha.h hg.h hs hw h1⟩
theorem ig {p2:Pos} (ha:aL (DE fa X a ga)) (hb:aL (DE fa X b gb)) (hd:aL (DE fa X d gd)) (h0:∀v,assign (.Subscript a b p2) X.env v=(do
 let ov <- holding [v] (eval a X.env)
 let iv <- holding [v,ov] (eval b X.env)
 standAt p2
 holding [v,ov,iv] (setItem ov iv v)
 release [v,ov,iv] []):=by exact fun _=>rfl) (hs:swapsWithSole [.Subscript a b p2] d pos.line X.env=pure false:=by exact rfl) (hw:swappedStores [.Subscript a b p2] d X.env=pure none:=by exact rfl) (h1:(assignEach [.Subscript a b p2] X.env).map (·.2)=[assign (.Subscript a b p2) X.env]:=by exact rfl):aL (DS fa X (.Assign [.Subscript a b p2] d pos) (dW ga gb gd)):=⟨Ii ha.h hb.h hd.h h0 hs hw h1⟩
theorem pZ {apos cpos:Pos}(ha:aL (DE fa X a ga))(hd:aL (DE fa X d gd))(hbase:attributeBase a "append" X.env (eval a X.env)=eval a X.env:=by exact rfl)(hline:(apos.endLine==cpos.line)=true:=by exact rfl)(hs:starEach [d] X.env=[(false,eval d X.env)]:=by exact rfl)(hsw:swapsWith (.Call (.Attribute a "append" apos) [d] [] cpos) none pos.line X.env=pure false:=by exact rfl):aL (DS fa X (.Expr (.Call (.Attribute a "append" apos) [d] [] cpos) pos) (iH ga gd)):=⟨Im ha.h hd.h hbase hline hs hsw⟩
theorem aH (ha:aL (DE fa X a ga)):aL (DS fa X (.Return (some a) pos) (aY ga)):=⟨Ih ha.h⟩
theorem a7 {c:Expr}{st sf:List Stmt}{gt gf:GS}(hc:aL (DT fa X c ta))(ht:aL (iq fa X st gt))(hf:aL (iq fa X sf gf)):aL (DS fa X (.If c st sf pos) (aZ ta gt gf)):=⟨Ij hc.h ht.h hf.h⟩
theorem gF {t:dN}{tg:Expr}{body:List Stmt}{gw:GW}{gb:GS}(hp:PassesOwn (model X.prog X.w) X.A X.env X.xe)(hi:aL (DI fa X tg a gw))(hg:aL (PG X tg (gT fa X.K t)))(hb:aL (iq fa X body gb))(hc:X.calm=true:=by exact rfl)(hs:∀x,foldedSetIterable a X.env x=pure x:=by exact fun _=>rfl):aL (DS fa X (.For tg a body [] pos) (eQ t gw gb)):=⟨Ik hp hc hi.h hg.h hb.h hs⟩
theorem au :aL (iq fa X [] av):=⟨EH⟩
theorem ai {st:Stmt}{ss:List Stmt}{g g':GS}(h1:aL (DS fa X st g))(h2:aL (iq fa X ss g')):aL (iq fa X (st::ss) (ah g g')):=⟨B9 h1.h h2.h⟩
theorem As {m:Bool}{p1 p2 pos2:Pos}(ha:aL (DE fa X a ga))(hml:X.mg "list"=none)(hm:X.mg "range"=none)(hc:X.calm=true:=by exact rfl)(hgl:Gl X "list":=by exact rfl)(hg:Gl X "range":=by exact rfl)(hs:starEach [a] X.env=[(false,eval a X.env)]:=by exact rfl)(hs2:starEach [.Call (.Name "range" p2) [a] [] pos2] X.env=[(false,eval (.Call (.Name "range" p2) [a] [] pos2) X.env)]:=by exact rfl):aL (DE fa X (.Call (.Name "list" p1) [.Call (.Name "range" p2) [a] [] pos2] [] pos) (nR m ga)):=⟨DN m hc ha.h hgl hml hg hm hs hs2⟩
theorem eI {m:Bool}(S:fN X own bn scope)(hi:aL (DI fa X tg iter gw))(pg:∀cl C fp s H,aL (PG (cg X own bn scope cl C fp s H) tg (gT fa X.K t)))(he:∀cl C fp s H,aL (DE fa (cg X own bn scope cl C fp s H) elt ge))(hc:X.calm=true:=by exact rfl)(hn:(slots t).all (· < own.length)=true:=by exact rfl)(hs:∀x,foldedSetIterable iter X.env x=pure x:=by exact fun _=>rfl):aL (DE fa X (.ListComp elt [⟨tg,iter,[],0⟩] scope pos) (cv m own.length t gw (cw ge))):=⟨Ad m (W:=[]) (body:=fun a env=>eval elt env >>= fun x=>call (.builtin "list.append") [.ref a,x] >>= fun _=>pure ()) S hc hi.h ⟨(fun cl C fp s H=>(pg cl C fp s H).h),fun cl C fp s H a=>nX ((fun cl C fp s H=>(he cl C fp s H).h) cl C fp s H)⟩ (fun it a env=>um elt tg iter [] scope pos (.ref it) (.ref a) env) (fun i h=>nomatch h) (by simpa using kI hn) hs⟩
theorem nj {m:Bool}(S:fN X own bn scope)(hi:aL (DI fa X tg iter gw))(pg:∀cl C fp s H,aL (PG (cg X own bn scope cl C fp s H) tg (gT fa X.K t)))(ht:∀cl C fp s H,aL (DT fa (cg X own bn scope cl C fp s H) c gc))(he:∀cl C fp s H,aL (DE fa (cg X own bn scope cl C fp s H) elt ge))(hc:X.calm=true:=by exact rfl)(hn:(slots t).all (· < own.length)=true:=by exact rfl)(hs:∀x,foldedSetIterable iter X.env x=pure x:=by exact fun _=>rfl):aL (DE fa X (.ListComp elt [⟨tg,iter,[c],0⟩] scope pos) (cv m own.length t gw (oX gc (cw ge)))):=⟨Ad m (W:=[]) (body:=fun a env=>isTrue c env (eval c env) >>= fun ok=>if ok=true then (eval elt env >>= fun x=>call (.builtin "list.append") [.ref a,x] >>= fun _=>pure ()) else pure ()) S hc hi.h ⟨(fun cl C fp s H=>(pg cl C fp s H).h),fun cl C fp s H a=>C6 ((fun cl C fp s H=>(ht cl C fp s H).h) cl C fp s H) (nX ((fun cl C fp s H=>(he cl C fp s H).h) cl C fp s H))⟩ (fun it a env=>turn_if elt tg iter c scope pos (.ref it) (.ref a) env) (fun i h=>nomatch h) (by simpa using kI hn) hs⟩
theorem Ar {m:Bool}(S:fN X own bn scope)(hi:aL (DI fa X tg iter gw))(pg:∀cl C fp s H,aL (PG (cg X own bn scope cl C fp s H) tg (gT fa X.K t)))(he:∀cl C fp s H,aL (DE fa (cg X own bn scope cl C fp s H) elt ge))(hN:X.N.Nodup)(hc:X.calm=true:=by exact rfl)(hn:(slots t).all (· < own.length)=true:=by exact rfl)(hs:∀x,foldedSetIterable iter X.env x=pure x:=by exact fun _=>rfl)(hy:X.N[i]?=some y:=by exact rfl)(hl:X.env.scope.names.lookup y=some .local:=by exact rfl)(hsw:swapsWith (.ListComp elt [⟨tg,iter,[],0⟩] scope pos) (some (.Name y py)) spos.line X.env=pure true:=by exact rfl):aL (DS fa X (.Assign [.Name y py] (.ListComp elt [⟨tg,iter,[],0⟩] scope pos) spos) (aP (.one i) (cv m own.length t gw (cw ge)))):=⟨uL m (W:=[]) (body:=fun a env=>eval elt env >>= fun x=>call (.builtin "list.append") [.ref a,x] >>= fun _=>pure ()) S hc hi.h ⟨(fun cl C fp s H=>(pg cl C fp s H).h),fun cl C fp s H a=>nX ((fun cl C fp s H=>(he cl C fp s H).h) cl C fp s H)⟩ (fun it a env=>um elt tg iter [] scope pos (.ref it) (.ref a) env) (fun i h=>nomatch h) (by simpa using kI hn) hs hN hy hl hsw⟩
theorem yz {m:Bool}(S:fN X own bn scope)(hi:aL (DI fa X tg iter gw))(pg:∀cl C fp s H,aL (PG (cg X own bn scope cl C fp s H) tg (gT fa X.K t)))(ht:∀cl C fp s H,aL (DT fa (cg X own bn scope cl C fp s H) c gc))(he:∀cl C fp s H,aL (DE fa (cg X own bn scope cl C fp s H) elt ge))(hN:X.N.Nodup)(hc:X.calm=true:=by exact rfl)(hn:(slots t).all (· < own.length)=true:=by exact rfl)(hs:∀x,foldedSetIterable iter X.env x=pure x:=by exact fun _=>rfl)(hy:X.N[i]?=some y:=by exact rfl)(hl:X.env.scope.names.lookup y=some .local:=by exact rfl)(hsw:swapsWith (.ListComp elt [⟨tg,iter,[c],0⟩] scope pos) (some (.Name y py)) spos.line X.env=pure true:=by exact rfl):aL (DS fa X (.Assign [.Name y py] (.ListComp elt [⟨tg,iter,[c],0⟩] scope pos) spos) (aP (.one i) (cv m own.length t gw (oX gc (cw ge))))):=⟨uL m (W:=[]) (body:=fun a env=>isTrue c env (eval c env) >>= fun ok=>if ok=true then (eval elt env >>= fun x=>call (.builtin "list.append") [.ref a,x] >>= fun _=>pure ()) else pure ()) S hc hi.h ⟨(fun cl C fp s H=>(pg cl C fp s H).h),fun cl C fp s H a=>C6 ((fun cl C fp s H=>(ht cl C fp s H).h) cl C fp s H) (nX ((fun cl C fp s H=>(he cl C fp s H).h) cl C fp s H))⟩ (fun it a env=>turn_if elt tg iter c scope pos (.ref it) (.ref a) env) (fun i h=>nomatch h) (by simpa using kI hn) hs hN hy hl hsw⟩
theorem Aq {m:Bool}(S:fN X own bn scope)(hi:aL (DI fa X tg iter gw))(pg:∀cl C fp s H,aL (PG (cg X own bn scope cl C fp s H) tg (gT fa X.K t)))(hi2:∀cl C fp s H,aL (DI fa (cg X own bn scope cl C fp s H) t2 i2 gw2))(pg2:∀cl C fp s H,aL (PG (cg X own bn scope cl C fp s H) t2 (gT fa X.K u)))(he:∀cl C fp s H,aL (DE fa (cg X own bn scope cl C fp s H) elt ge))(hs2:∀cl C fp s H,∀x,foldedSetIterable i2 (cg X own bn scope cl C fp s H).env x=pure x)(hN:X.N.Nodup)(hc:X.calm=true:=by exact rfl)(hn:(slots t++slots u).all (· < own.length)=true:=by exact rfl)(hW:(slots u).all (fun i=>!(slots t).contains i)=true:=by exact rfl)(hs:∀x,foldedSetIterable iter X.env x=pure x:=by exact fun _=>rfl)(hy:X.N[i]?=some y:=by exact rfl)(hl:X.env.scope.names.lookup y=some .local:=by exact rfl)(hsw:swapsWith (.ListComp elt [⟨tg,iter,[],0⟩,⟨t2,i2,[],0⟩] scope pos) (some (.Name y py)) spos.line X.env=pure true:=by exact rfl):aL (DS fa X (.Assign [.Name y py] (.ListComp elt [⟨tg,iter,[],0⟩,⟨t2,i2,[],0⟩] scope pos) spos) (aP (.one i) (cv m own.length t gw (rT u gw2 (cw ge))))):=⟨DF m S hc hi.h (fun cl C fp s H=>(pg cl C fp s H).h) (fun cl C fp s H=>(hi2 cl C fp s H).h) (fun cl C fp s H=>(pg2 cl C fp s H).h) (fun cl C fp s H=>(he cl C fp s H).h) hn hW hs hs2 hN hy hl hsw⟩
theorem iC {x:Str}{i:Int}(hm:∃t,X.mg x=some (.int i t))(hg:Gl X x:=by exact rfl)(hd:(x==("__debug__":Str))=false:=by exact rfl):aL (DE fa X (.Name x pos) (gC (.int i))):=⟨let ⟨_,h⟩:=hm;FK hg h hd⟩
theorem uh {x:Str}{b:Expr}{gb:GE}{p:Pos}{fs:List (Str×Nat)}(h:∃ad kvs,X.mg x=some (.ref ad)/\jM X.K X.w.params ad kvs/\fW fa kvs fs)(hb:aL (DE fa X b gb))(hg:Gl X x:=by exact rfl)(hdb:(x==("__debug__":Str))=false:=by exact rfl)(hs:mq b:=by exact fun _ _=>rfl):aL (DE fa X (.Subscript (.Name x p) b pos) (oF fs gb)):=⟨let ⟨_,_,h1,h2,h3⟩:=h;FL h2 h3 hg h1 hdb hb.h hs⟩
theorem Aw {x:Str}{a:Expr}{ga:GE}{p:Pos}{fs:List (Str×Nat)}(h:∃ad kvs,X.mg x=some (.ref ad)/\jM X.K X.w.params ad kvs/\fW fa kvs fs)(ha:aL (DE fa X a ga))(hg:Gl X x:=by exact rfl)(hdb:(x==("__debug__":Str))=false:=by exact rfl)(hmk:behindInMarks .NotIn (.Name x p)=false:=by exact rfl):aL (DT fa X (.Compare a [.NotIn] [.Name x p] pos) (aG (oE fs ga))):=⟨let ⟨_,_,h1,h2,h3⟩:=h;FW h2 h3 hg h1 hdb ha.h hmk⟩
theorem E9 {m:Bool}{pc pu:Pos}{k:Nat}(ha:aL (DE fa X a ga)):aL (DE fa X (.Subscript a (.Slice none none (some (.UnaryOp .USub (.Constant (.int 1) k pc) pu)) p2) pos) (pT m ga)):=⟨Jc m ha.h⟩
theorem vT {hl:Bool}{hh:Bool}{lo hi:Option Expr}{gl gh:GE}(ha:aL (DE fa X a ga))(hlo:aL (DO fa X lo hl gl))(hhi:aL (DO fa X hi hh gh)):aL (DE fa X (.Subscript a (.Slice lo hi none p2) pos) (oC hl hh ga gl gh)):=⟨FI hl hh ha.h hlo.h hhi.h⟩
theorem Ay (ha:aL (DE fa X a ga)):aL (DI fa X tg a (qN ga)):=⟨EL ha.h⟩
theorem jn {f:Nat}{x:Str}{call:Call}(C:∀f,ir fa X.prog X.w X.K X.mg X.base n f (call f))(hr:cC (n+4) X.A)(hm:∀ad,fa f=some ad->X.mg x=some (.ref ad))(hs:aL (DA fa X (a::es) gs))(hex:X.ex=[]:=by exact rfl)(hg:Gl X x:=by exact rfl)(hdb:(x==("__debug__":Str))=false:=by exact rfl)(he:notStar a=true:=by exact rfl)(hpl:es.all notStar=true:=by exact rfl):aL (DX fa X (.Call (.Name x p) (a::es) [] pos) (eO f call gs)):=⟨x_call f C hr hex hg hm hs.h hdb he hpl⟩
theorem ku (ha:aL (DX fa X a ga))(hs:swapsWith a none pos.line X.env=pure false:=by exact rfl):aL (DS fa X (.Expr a pos) (jv ga)):=⟨I9 ha.h hs⟩
theorem pj {c:Nat}{x:Str}{np cpos:Pos}(hx:∃C,X.mg x=some (.ref C)/\fa (dE c)=some C/\PySem.W.excIn X.K C ml "ValueError.__new__"=true)(hs:aL (DA fa X (a::es) gs))(hex:X.ex=[]:=by exact rfl)(hg:Gl X x:=by exact rfl)(hc:X.calm=true:=by exact rfl)(hdb:(x==("__debug__":Str))=false:=by exact rfl)(he:notStar a=true:=by exact rfl)(hpl:es.all notStar=true:=by exact rfl):aL (DS fa X (.Raise (some (.Call (.Name x np) (a::es) [] cpos)) none pos) (jQ c gs)):=⟨DD c hx hex hg hc hs.h hdb he hpl⟩
theorem dC {k:Nat}(hc:lK fa X.K)(hx:∃D,X.mg x=some (.ref D)/\fa (dE k)=some D)(ha:aL (DE fa X a ga))(hm:X.mg "isinstance"=none)(hg:Gl X "isinstance":=by exact rfl)(hgt:Gl X x:=by exact rfl)(hdb:(x==("__debug__":Str))=false:=by exact rfl)(he:starEach [a,.Name x p1] X.env=(false,eval a X.env)::starEach [.Name x p1] X.env:=by exact rfl):aL (DE fa X (.Call (.Name "isinstance" p2) [a,.Name x p1] [] pos) (cW (some k) ga)):=⟨DP k hc hx ha.h hg hm hgt hdb he⟩
theorem Av (hc:lK fa X.K)(hx:∃D,X.mg x=some (.ref D)/\fa 999=some D)(ha:aL (DE fa X a ga))(hm:X.mg "isinstance"=none)(hg:Gl X "isinstance":=by exact rfl)(hgt:Gl X x:=by exact rfl)(hdb:(x==("__debug__":Str))=false:=by exact rfl)(he:starEach [a,.Name x p1] X.env=(false,eval a X.env)::starEach [.Name x p1] X.env:=by exact rfl):aL (DE fa X (.Call (.Name "isinstance" p2) [a,.Name x p1] [] pos) (cW none ga)):=⟨DQ hc hx ha.h hg hm hgt hdb he⟩
theorem Au (hc:lK fa X.K)(ha:aL (DE fa X a ga))(hm:X.mg "isinstance"=none)(hmt:X.mg "ValueError"=none)(hg:Gl X "isinstance":=by exact rfl)(hgt:Gl X "ValueError":=by exact rfl)(he:starEach [a,.Name "ValueError" p1] X.env=(false,eval a X.env)::starEach [.Name "ValueError" p1] X.env:=by exact rfl):aL (DE fa X (.Call (.Name "isinstance" p2) [a,.Name "ValueError" p1] [] pos) (cW none ga)):=⟨cq (jw (Ey (fa:=fa) hc) hg hm (by decide +kernel) (cN ha.h (cN (wj hgt hmt (by decide +kernel) (v:=.ty "ValueError") rfl) fb (by rfl)) he) (by decide) (by decide) he (by rfl)) fun σ H Q h=>rS h⟩
theorem E8 (hc:lK fa X.K)(hx:∃D,X.mg x=some (.ref D)/\fa 999=some D)(hN:X.N.Nodup)(hb:∀pn E,aL (iq fa (qM X pn E) body gB))(hh:∀v E,aL (iq fa (ua X v E) (b0::suite) gH))(hex:X.ex=[]:=by exact rfl)(hst:X.stack=X.env::X.outer:=by exact rfl)(hfr:X.env.frame=some X.env.locals:=by exact rfl)(hi:X.N[i]?=some nm:=by exact rfl)(hl:X.env.scope.names.lookup nm=some .local:=by exact rfl)(hg:Gl X x:=by exact rfl)(hdb:(x==("__debug__":Str))=false:=by exact rfl):aL (DS fa X (.Try body [.ExceptHandler (some (.Name x np)) (some nm) (b0::suite) hp] [] [] pos) (q9 gB i gH)):=⟨I8 hc hx hex hst hfr hN hi hl hg hdb (fun pn E=>(hb pn E).h) (fun v E=>(hh v E).h)⟩
theorem Di (ha:aL (DE fa X a ga))(hbase:attributeBase a "count" X.env (eval a X.env)=eval a X.env:=by exact rfl)(hline:(apos.endLine==cpos.line)=true:=by exact rfl):aL (DE fa X (.Call (.Attribute a "count" apos) [.Constant (.bool true) j kp] [] cpos) (yf ga)):=⟨FN ha.h hbase hline⟩
theorem Dh (ha:aL (DE fa X a ga))(hbase:attributeBase a "index" X.env (eval a X.env)=eval a X.env:=by exact rfl)(hline:(apos.endLine==cpos.line)=true:=by exact rfl):aL (DE fa X (.Call (.Attribute a "index" apos) [.Constant (.bool true) j kp] [] cpos) (yd ga)):=⟨FJ ha.h hbase hline⟩
theorem sq {c:Nat}(J:mv fa X.prog X.w X.K X.mg X.base c x)(hr:cC 2 X.A)(ha:aL (DE fa X a ga))(hex:X.ex=[]:=by exact rfl)(hg:Gl X x:=by exact rfl)(hc:X.calm=true:=by exact rfl)(hdb:(x==("__debug__":Str))=false:=by exact rfl)(he:notStar a=true:=by exact rfl):aL (DS fa X (.Raise (some (.Call (.Name x np) [a] [] cpos)) none pos) (ju c ga)):=⟨A7 c J hr hex hg hc ha.h hdb he⟩
theorem pq {f:Str}(hc:lK fa X.K)(hf:Ao fa X.K f)(ha:aL (DE fa X a ga))(hb:attributeBase a f X.env (eval a X.env)=eval a X.env:=by exact rfl):aL (DE fa X (.Attribute a f pos) (k9 f ga)):=⟨DR f hc hf ha.h hb⟩
theorem IQ {fa:Fa}{X:Cx}{a:Expr}{ga:GE}{pos p1 p2 p3:Pos}{j j2:Nat}{z y:Str}(ha:aL (DE fa X a ga)):aL (DE fa X (.JoinedStr [.Constant (.str z) j p1,.FormattedValue a (-1) none p2,.Constant (.str y) j2 p3] pos) (HU z y ga)):=⟨K5 ha.h⟩
theorem vU (hr:cC (n+4) X.A)(hm:X.mg "repr"=none)(hs:aL (DA fa X (a::es) gs))(hg:Gl X "repr":=by exact rfl)(he:notStar a=true:=by exact rfl)(hpl:es.all notStar=true:=by exact rfl):aL (DE fa X (.Call (.Name "repr" p) (a::es) [] pos) (gZ gs)):=⟨cq (jw (HV (fa:=fa) hr) hg hm (by decide +kernel) hs.h (by decide) (by decide) (cK he) (ee hpl)) fun σ H Q ⟨μ,Z,M,hE,hM,h⟩=>uw hE hM h fun ds M1 vs H1 μ1 x1 hE1 hM1 r1 h1=>⟨μ1,M1,ds,hM1,r1,l8 h1 x1⟩⟩
theorem unbox {st:List Stmt}{g:GS}(h:aL (iq fa X st g)):iq fa X st g:=h.h
end
end LD
namespace LD
open PySem
abbrev gI (n:Int):GE:=gC (.int n)
abbrev gS (x:Str):GE:=gC (.str x)
abbrev gN:GE:=gC .non
abbrev mf:GE:=gC (.bl true)
abbrev wG:GE:=gC (.bl false)
abbrev rF:GS:=ah (aY wG) av
end LD
namespace LD
open PySem
def dJ:List (Str×Nat):=[("turn",7),("join",8),("move",9),("put",10)]
def dX:List (Str×Nat):=[("turn",20),("join",21),("move",22),("put",23)]
def fK (c:Call):GS:=ah (aZ (eJ (aG (cb .bool (af 0))) (bT (aG (cb .int (af 0))))) rF av) (ah (aY (lS .le .le (af 1) (af 0) (af 2))) av)
def jX (c:Call):GS:=ah (aY (ax 0 c (aa (af 1) (aa (gI 0) (aa (aA false .sub (af 0) (gI 1)) aj))))) av
def jj (c:Call):GS:=ah (aY (ax 0 c (aa (af 1) (aa (gI 0) (aa (aA false .sub (af 0) (gI 1)) aj))))) av
def jY (c:Call):GS:=ah (aY (ax 0 c (aa (af 0) (aa (gI 1) (aa (gI 3) aj))))) av
def gi (c:Call):GS:=ah (aY (eT (cb .tuple (af 1)) (aW .eq (bD .len (aa (af 1) aj)) (af 0)))) av
def ji (c:Call):GS:=ah (aY (eT (ax 4 c (aa (af 0) (aa (af 1) aj))) (bD .all (aa (cv false 1 (.one 0) (fS (af 1)) (cw (ax 1 c (aa (af 1) (aa (af 0) aj))))) aj)))) av
def eB (c:Call):GS:=ah (aY (eT (ax 4 c (aa (af 0) (aa (af 1) aj))) (bD .all (aa (cv false 1 (.one 0) (fS (af 1)) (cw (ax 5 c (aa (af 1) (aa (af 0) aj))))) aj)))) av
def gO (c:Call):GS:=ah (aZ (aG (aW .ne (bD .len (aa (af 2) aj)) (gI 3))) rF av) (ah (aP (.tup [3,4,5]) (af 2)) (ah (aY (eT (ax 2 c (aa (af 1) (aa (af 3) aj))) (eT (ax 5 c (aa (af 0) (aa (af 4) aj))) (ax 3 c (aa (af 5) aj))))) av))
def gQ (c:Call):GS:=ah (aZ (aG (aW .ne (bD .len (aa (af 2) aj)) (gI 4))) rF av) (ah (aP (.tup [3,4,5,6]) (af 2)) (ah (aZ (eJ (bT (aG (ax 2 c (aa (af 1) (aa (af 3) aj))))) (bT (aG (ax 2 c (aa (af 1) (aa (af 4) aj)))))) rF av) (ah (aY (eT (ax 6 c (aa (af 0) (aa (af 5) aj))) (ax 3 c (aa (af 6) aj)))) av)))
def gP (c:Call):GS:=ah (aZ (aG (aW .ne (bD .len (aa (af 2) aj)) (gI 3))) rF av) (ah (aP (.tup [3,4,5]) (af 2)) (ah (aY (eT (ax 2 c (aa (af 1) (aa (af 3) aj))) (eT (ax 2 c (aa (af 1) (aa (af 4) aj))) (ax 3 c (aa (af 5) aj))))) av))
def iJ (c:Call):GS:=ah (aZ (aG (aW .ne (bD .len (aa (af 2) aj)) (gI 3))) rF av) (ah (aP (.tup [3,4,5]) (af 2)) (ah (aY (eT (ax 2 c (aa (af 1) (aa (af 3) aj))) (eT (ax 1 c (aa (af 0) (aa (af 4) aj))) (ax 3 c (aa (af 5) aj))))) av))
def gR (c:Call):GS:=ah (aZ (eJ (bT (aG (cb .tuple (af 2)))) (bT (aG (af 2)))) rF av) (ah (aP (.one 3) (aQ (af 2) (gI 0))) (ah (aZ (eJ (bT (aG (cb .str (af 3)))) (aG (oE dJ (af 3)))) rF av) (ah (aP (.one 4) (oF dJ (af 3))) (ah (aY (nS 4 c (aa (af 0) (aa (af 1) (aa (cY false true false (af 2) (gI 1) gN) aj))))) av))))
def fJ (c:Call):GS:=ah (aZ (bT (aG (ax 4 c (aa (gI 3) (aa (af 0) aj))))) rF av) (ah (aP (.tup [1,2,3]) (af 0)) (ah (aZ (eJ (bT (aG (ax 0 c (aa (af 1) (aa (gI 2) (aa (gI 4) aj)))))) (bT (aG (ax 0 c (aa (af 2) (aa (gI 1) (aa (gI 2) aj))))))) rF av) (ah (aZ (eJ (bT (aG (cb .tuple (af 3)))) (bT (aG (lS .le .le (gI 1) (bD .len (aa (af 3) aj)) (gI 6))))) rF av) (ah (aY (bD .all (aa (cv false 1 (.one 0) (fS (af 3)) (cw (ax 11 c (aa (af 2) (aa (af 3) (aa (af 0) aj)))))) aj))) av))))
def dn (c:Call):GS:=ah (aZ (bT (aG (ax 12 c (aa (af 0) aj)))) (ah (jQ 3 (aa (gS "this is no machine") aj)) av) av) av
def eG (c:Call):GS:=ah (aP (.tup [2,3,4]) (af 0)) (ah (aY (eT (ax 4 c (aa (af 3) (aa (af 1) aj))) (bD .all (aa (cv false 1 (.one 0) (fS (af 1)) (cw (ax 1 c (aa (af 3) (aa (af 0) aj))))) aj)))) av)
def dF (c:Call):GS:=ah (jv (eO 13 c (aa (af 0) aj))) (ah (aP (.tup [1,2,3]) (af 0)) (ah (aP (.one 4) (ba false (aa (bh aj) aj))) (ah (eQ (.one 5) (d7 (af 2)) (ah (aP (.one 4) (cv false 2 (.one 0) (fS (af 4)) (rT (.one 1) (d7 (af 3)) (cw (aA false .add (af 0) (bh (aa (af 1) aj))))))) av)) (ah (aY (af 4)) av))))
def eP (c:Call):GS:=ah (aY (ax 0 c (aa (af 1) (aa (gI 0) (aa (aA false .sub (bD .len (aa (aQ (af 0) (gI 2)) aj)) (gI 1)) aj))))) av
def cJ (c:Call):GS:=ah (aZ (bT (aG (cb .list (af 1)))) (ah (ju 0 (gI 0)) av) av) (ah (eQ (.tup [2,3]) (mR (af 1)) (ah (aZ (bT (aG (ax 16 c (aa (af 0) (aa (af 3) aj))))) (ah (ju 0 (af 2)) av) av) av)) av)
def dP (c:Call):GS:=ah (jv (eO 13 c (aa (af 0) aj))) (ah (jv (eO 17 c (aa (af 0) (aa (af 1) aj)))) (ah (aZ (aG (aW .gt (bD .len (aa (af 1) aj)) (gI 40))) (ah (jQ 4 (aa (HU "a row has at most " " deeds" (gI 40)) aj)) av) av) av))
def mV (c:Call):GS:=ah (aP (.tup [2,3,4,5]) (af 0)) (ah (aY (aQ (af 4) (aQ (af 1) (af 3)))) av)
def mX (c:Call):GS:=ah (aP (.tup [2,3,4,5,6]) (af 0)) (ah (aY (aQ (aQ (af 5) (aQ (af 1) (af 3))) (aQ (af 1) (af 4)))) av)
def oP (c:Call):GS:=ah (aP (.tup [2,3,4,5]) (af 0)) (ah (aY (aQ (af 1) (af 4))) av)
def mW (c:Call):GS:=ah (aP (.tup [2,3,4,5]) (af 0)) (ah (aY (af 4)) av)
def qT (c:Call):GS:=ah (aP (.one 2) (oF dX (aQ (af 0) (gI 0)))) (ah (aP (.one 3) (aQ (af 0) (gI 1))) (ah (aY (aA false .add (aA false .add (cY false false true (af 1) gN (af 3)) (bh (aa (nS 2 c (aa (af 0) (aa (af 1) aj))) aj))) (cY false true false (af 1) (aA false .add (af 3) (gI 1)) gN))) av))
def g9 (c:Call):GS:=ah (aP (.one 3) (ba true (aa (af 2) aj))) (ah (eQ (.one 4) (fS (af 1)) (ah (iH (af 3) (ax 24 c (aa (aQ (aQ (af 0) (gI 2)) (af 4)) (aa (aQ (af 3) (fT (gI 1))) aj)))) av)) (ah (aY (af 3)) av))
def iy (c:Call):GS:=ah (jv (eO 18 c (aa (af 0) (aa (af 1) aj)))) (ah (aZ (bT (aG (ax 14 c (aa (af 0) (aa (af 2) aj))))) (ah (jQ 5 (aa (gS "this is no beginning of the machine") aj)) av) av) (ah (aY (ax 25 c (aa (af 0) (aa (af 1) (aa (af 2) aj))))) av))
def dB (c:Call):GS:=ah (jv (eO 18 c (aa (af 0) (aa (af 1) aj)))) (ah (aY (ax 46 c (aa (af 0) (aa (af 1) aj)))) av)
def iz (c:Call):GS:=ah (aZ (aG (aW .ge (af 0) (aA false .pow (gI 10) (gI 18)))) (ah (aY (af 0)) av) av) (ah (aP (.one 2) (ba false (aa (gI 2147483629) (aa (gI 2147483587) (aa (gI 2147483579) (aa (gI 2147483563) (aa (gI 2147483549) (aa (gI 2147483543) (aa (gI 2147483497) (aa (gI 2147483489) aj)))))))))) (ah (aP (.one 2) (aA false .add (af 2) (ba false (aa (gI 2147483477) (aa (gI 2147483423) (aa (gI 2147483399) (aa (gI 2147483353) (aa (gI 2147483323) aj)))))))) (ah (aP (.one 3) (aA false .mod (aA false .pow (aA false .add (aA false .add (aA false .mul (aA false .mod (af 0) (gI 1000000007)) (aA false .add (aA false .mul (gI 2) (af 1)) (gI 69069))) (aA false .mul (af 1) (gI 40503))) (gI 977)) (gI 3)) (aQ (af 2) (aA false .mod (af 1) (gI 13))))) (ah (aP (.one 4) (aA false .mod (aA false .pow (aA false .add (aA false .add (aA false .mul (af 3) (aA false .add (af 1) (gI 3))) (aA false .mod (af 0) (gI 65537))) (gI 5)) (gI 5)) (aQ (af 2) (aA false .mod (aA false .add (af 1) (gI 5)) (gI 13))))) (ah (aP (.one 5) (aA false .mod (aA false .pow (aA false .add (aA false .add (af 4) (aA false .mod (af 3) (gI 1009))) (af 1)) (gI 3)) (aQ (af 2) (aA false .mod (aA false .add (af 1) (gI 7)) (gI 13))))) (ah (aY (aA false .add (aA false .mul (aA false .add (aA false .mul (af 3) (gI 2147483647)) (af 4)) (gI 2147483647)) (af 5))) av))))))
def jK (c:Call):GS:=ah (aP (.one 1) (bD (.list true) (aa (cY false false true (af 0) gN (gI 12)) aj))) (ah (eQ (.tup [2,3]) (mR (cY false true true (af 0) (gI 12) (gI 63))) (ah (dW (af 1) (aA false .mod (af 2) (gI 12)) (aA false .add (aQ (af 1) (aA false .mod (af 2) (gI 12))) (af 3))) av)) (ah (aY (ba true (aa (af 1) (aa (gI 0) (aa (gI 0) aj))))) av))
def jL (c:Call):GS:=ah (dW (af 0) (gI 2) (gI 0)) (ah (aY (af 0)) av)
def lU (c:Call):GS:=ah (aZ (aG (aW .lt (aQ (af 0) (gI 2)) (af 1))) (ah (aP (.one 2) (aQ (af 0) (gI 1))) (ah (aP (.one 3) (gI 0)) (ah (aZ (aG (aW .lt (af 2) (bD .len (aa (aQ (af 0) (gI 0)) aj)))) (ah (aP (.one 3) (aQ (aQ (af 0) (gI 0)) (af 2))) av) (ah (aZ (aG (aW .gt (bD .len (aa (aQ (af 0) (gI 0)) aj)) (gI 0))) (ah (aP (.one 3) (aA false .mod (aQ (aQ (af 0) (gI 0)) (aA false .mod (aA false .add (aA false .mul (af 2) (gI 5)) (gI 3)) (bD .len (aa (aQ (af 0) (gI 0)) aj)))) (aA false .add (aA false .pow (gI 10) (gI 17)) (af 2)))) av) av) av)) (ah (dW (af 0) (gI 1) (aA false .add (af 2) (gI 1))) (ah (dW (af 0) (gI 2) (ax 28 c (aa (af 3) (aa (af 2) aj)))) av))))) av) (ah (aP (.one 4) (aA false .mod (aQ (af 0) (gI 2)) (af 1))) (ah (dW (af 0) (gI 2) (aA false .fdiv (aQ (af 0) (gI 2)) (af 1))) (ah (aY (af 4)) av)))
def jk (c:Call):GS:=ah (aP (.one 2) (ax 31 c (aa (af 0) (aa (gI 6) aj)))) (ah (aP (.one 3) (ax 31 c (aa (af 0) (aa (af 1) aj)))) (ah (aP (.one 4) (ax 31 c (aa (af 0) (aa (af 1) aj)))) (ah (aZ (aG (aW .lt (af 2) (gI 2))) (ah (aY (bD .tuple (aa (cv false 1 (.one 0) (d7 (af 1)) (cw (ax 31 c (aa (af 1) (aa (af 2) aj))))) aj))) av) av) (ah (aZ (aG (aW .eq (af 2) (gI 2))) (ah (aY (bD .tuple (aa (cv false 1 (.one 0) (d7 (af 1)) (cw (aA false .mod (aA false .add (aA false .add (af 0) (gI 1)) (af 4)) (af 2)))) aj))) av) av) (ah (aZ (aG (aW .eq (af 2) (gI 3))) (ah (aY (bD .tuple (aa (cv false 1 (.one 0) (d7 (af 1)) (cw (ic (aG (aW .eq (af 0) (af 4))) (af 5) (af 0)))) aj))) av) av) (ah (aZ (aG (aW .eq (af 2) (gI 4))) (ah (aY (aA false .mul (bh (aa (af 3) aj)) (af 1))) av) av) (ah (aP (.one 5) (nR true (af 1))) (ah (dW (af 5) (af 3) (af 4)) (ah (dW (af 5) (af 4) (af 3)) (ah (aY (bD .tuple (aa (af 5) aj))) av))))))))))
def ik (c:Call):GS:=ah (aP (.one 3) (ax 31 c (aa (af 0) (aa (gI 8) aj)))) (ah (aP (.one 4) (aA false .add (gI 1) (ax 31 c (aa (af 0) (aa (gI 3) aj))))) (ah (aP (.one 5) (ax 31 c (aa (af 0) (aa (af 2) aj)))) (ah (aP (.one 6) (ax 31 c (aa (af 0) (aa (af 2) aj)))) (ah (aZ (aG (aW .lt (af 3) (gI 3))) (ah (aY (bh (aa (gS "turn") (aa (af 5) (aa (ax 32 c (aa (af 0) (aa (af 1) aj))) (aa (af 4) aj)))))) av) av) (ah (aZ (aG (aW .lt (af 3) (gI 5))) (ah (aY (bh (aa (gS "move") (aa (af 5) (aa (ic (aG (aW .eq (af 3) (gI 3))) (aA false .mod (aA false .add (af 5) (gI 1)) (af 2)) (af 6)) (aa (af 4) aj)))))) av) av) (ah (aZ (aG (aW .eq (af 3) (gI 5))) (ah (aY (bh (aa (gS "put") (aa (af 5) (aa (ax 31 c (aa (af 0) (aa (af 1) aj))) (aa (af 4) aj)))))) av) av) (ah (aY (bh (aa (gS "join") (aa (af 5) (aa (af 6) (aa (bD .tuple (aa (cv false 1 (.one 0) (d7 (af 1)) (cw (ax 32 c (aa (af 1) (aa (af 2) aj))))) aj)) (aa (af 4) aj))))))) av)))))))
def fL (c:Call):GS:=ah (aP (.one 1) (aA false .add (gI 2) (ax 31 c (aa (af 0) (aa (aA false .sub (af 1) (gI 1)) aj))))) (ah (aP (.one 2) (aA false .add (gI 1) (ax 31 c (aa (af 0) (aa (af 2) aj))))) (ah (aP (.one 4) (ba true aj)) (ah (eQ (.one 5) (d7 (aA false .add (gI 1) (ax 31 c (aa (af 0) (aa (af 3) aj))))) (ah (aP (.one 6) (ax 31 c (aa (af 0) (aa (gI 5) aj)))) (ah (aP (.one 7) (ax 33 c (aa (af 0) (aa (af 1) (aa (af 2) aj))))) (ah (aZ (ia (aG (aW .eq (af 6) (gI 0))) (aG (aW .ne (af 4) (ba false aj)))) (ah (aP (.one 7) (aA false .add (cY false false true (aQ (af 4) (ax 31 c (aa (af 0) (aa (bD .len (aa (af 4) aj)) aj)))) gN (fT (gI 1))) (bh (aa (aQ (af 7) (fT (gI 1))) aj)))) av) av) (ah (iH (af 4) (af 7)) av))))) (ah (aY (bh (aa (af 1) (aa (af 2) (aa (bD .tuple (aa (af 4) aj)) aj))))) av))))
def hJ (c:Call):GS:=ah (aP (.one 3) (ax 31 c (aa (af 0) (aa (gI 4) aj)))) (ah (aP (.one 4) (ic (aG (aW .eq (af 3) (gI 0))) (af 2) (ax 31 c (aa (af 0) (aa (aA false .add (af 2) (gI 1)) aj))))) (ah (aP (.one 5) (cv false 1 (.one 0) (d7 (af 4)) (cw (ax 31 c (aa (af 1) (aa (bD .len (aa (aQ (af 2) (gI 2)) aj)) aj)))))) (ah (aZ (aG (aW .eq (af 3) (gI 1))) (ah (aP (.one 5) (cY false false true (aA false .mul (cY false false true (af 5) gN (gI 2)) (af 4)) gN (af 4))) av) av) (ah (aY (af 5)) av))))
def dQ (c:Call):GS:=ah (aZ (aG (aW .isN (af 1) gN)) (ah (aY (aW .isN (af 0) gN)) av) av) (ah (aZ (eJ (aG (cb .bool (af 1))) (aG (cb .bool (af 0)))) (ah (aY (eT (cb .bool (af 1)) (eT (cb .bool (af 0)) (aW .eq (af 0) (af 1))))) av) av) (ah (aZ (aG (cb .int (af 1))) (ah (aY (eT (cb .int (af 0)) (aW .eq (af 0) (af 1)))) av) av) (ah (aZ (aG (cb .str (af 1))) (ah (aY (eT (cb .str (af 0)) (aW .eq (af 0) (af 1)))) av) av) (ah (aZ (eJ (aG (aW .ne (cb .tuple (af 1)) (cb .tuple (af 0)))) (aG (aW .ne (cb .list (af 1)) (cb .list (af 0))))) rF av) (ah (aZ (aG (aW .ne (bD .len (aa (af 0) aj)) (bD .len (aa (af 1) aj)))) rF av) (ah (aY (aW .notin wG (cv false 2 (.tup [0,1]) (oB (af 0) (af 1)) (cw (ax 40 c (aa (af 0) (aa (af 1) aj))))))) av))))))
def fO (c:Call):GS:=ah (aY (bD .tuple (aa (cv false 1 (.one 0) (fS (ax 15 c (aa (af 0) aj))) (cw (aQ (ax 25 c (aa (af 1) (aa (af 2) (aa (af 0) aj)))) (fT (gI 1))))) aj))) av
def Cm (c:Call):GS:=ah (CF (.one 3) (eO 27 c (aa (af 0) (aa (af 1) aj)))) (ah (CF (.one 4) (eO 27 c (aa (af 0) (aa (af 2) aj)))) (ah (eQ (.tup [5,6,7]) (yc (ax 15 c (aa (af 0) aj)) (af 3) (af 4)) (ah (aZ (aG (aW .ne (af 6) (af 7))) (ah (aY (af 5)) av) av) av)) (ah (aY gN) av)))
def fh (c:Call):GS:=ah (aP (.one 2) (gS " !\"#$&'()*+,-./0123456789:;<=>?@ABCDEFGHIJKLMNOPQRSTUVWXYZ[\\]^_`")) (ah (aP (.one 2) (aA false .add (af 2) (gS "abcdefghijklmnopqrstuvwxyz{|}~\t\n"))) (ah (aP (.one 3) (cv false 1 (.one 0) (qN (af 2)) (oX (aG (aW .notin (af 0) (af 2))) (cw (af 0))))) (ah (aY (aQ (af 3) (ax 31 c (aa (af 0) (aa (bD .len (aa (af 3) aj)) aj))))) av)))
def fi (c:Call):GS:=ah (aY (ax 64 c (aa (af 0) (aa (gS "") aj)))) av
def gj (c:Call):GS:=ah (aP (.one 2) (ax 31 c (aa (af 0) (aa (aA false .add (bD .len (aa (af 1) aj)) (gI 1)) aj)))) (ah (aY (aA false .add (aA false .add (oC false true (af 1) gN (af 2)) (ax 65 c (aa (af 0) aj))) (oC true false (af 1) (aA false .add (af 2) (ax 31 c (aa (af 0) (aa (gI 2) aj)))) gN))) av)
def jl (c:Call):GS:=ah (aY (eT (cb .int (af 0)) (HR (cb .bool (af 0))))) av
def lh (c:Call):GS:=ah (aY (eT (ax 67 c (aa (af 0) aj)) (lS .le .le (af 1) (af 0) (af 2)))) av
def hU (c:Call):GS:=ah (aZ (eJ (bT (aG (cb .tuple (af 0)))) (aG (aW .ne (bD .len (aa (af 0) aj)) (af 1)))) rF av) (ah (aY (aW .eq (cv false 1 (.one 0) (fS (af 0)) (oX (bT (aG (ax 68 c (aa (af 0) (aa (af 3) (aa (af 4) aj)))))) (cw (gI 1)))) (ba false aj))) av)
def bC (c:Call):GS:=ah (aZ (eJ (bT (aG (cb .tuple (af 0)))) (aG (aW .notin (bD .len (aa (af 0) aj)) (bh (aa (gI 4) (aa (gI 5) aj)))))) rF av) (ah (aZ (eJ (aG (aW .notin (aQ (af 0) (gI 0)) (bh (aa (gS "turn") (aa (gS "join") (aa (gS "move") (aa (gS "put") aj))))))) (aG (aW .ne (aW .eq (bD .len (aa (af 0) aj)) (gI 5)) (aW .eq (aQ (af 0) (gI 0)) (gS "join"))))) rF av) (ah (aZ (eJ (bT (aG (ax 69 c (aa (bh (aa (aQ (af 0) (gI 1)) aj)) (aa (gI 1) (aa (gI 0) (aa (aA false .sub (af 2) (gI 1)) aj))))))) (bT (aG (ax 68 c (aa (aQ (af 0) (fT (gI 1))) (aa (gI 1) (aa (gI 3) aj))))))) rF av) (ah (aZ (aG (aW .eq (aQ (af 0) (gI 0)) (gS "turn"))) (ah (aY (ax 69 c (aa (aQ (af 0) (gI 2)) (aa (af 1) (aa (gI 0) (aa (aA false .sub (af 1) (gI 1)) aj)))))) av) av) (ah (aZ (aG (aW .eq (aQ (af 0) (gI 0)) (gS "put"))) (ah (aY (ax 68 c (aa (aQ (af 0) (gI 2)) (aa (gI 0) (aa (aA false .sub (af 1) (gI 1)) aj))))) av) av) (ah (aZ (bT (aG (ax 68 c (aa (aQ (af 0) (gI 2)) (aa (gI 0) (aa (aA false .sub (af 2) (gI 1)) aj)))))) rF av) (ah (aZ (aG (aW .eq (aQ (af 0) (gI 0)) (gS "move"))) (ah (aY mf) av) av) (ah (aZ (eJ (bT (aG (cb .tuple (aQ (af 0) (gI 3))))) (aG (aW .ne (bD .len (aa (aQ (af 0) (gI 3)) aj)) (af 1)))) rF av) (ah (aY (aW .eq (cv false 1 (.one 0) (fS (aQ (af 0) (gI 3))) (oX (bT (aG (ax 69 c (aa (af 0) (aa (af 2) (aa (gI 0) (aa (aA false .sub (af 2) (gI 1)) aj))))))) (cw (gI 1)))) (ba false aj))) av))))))))
def eC (c:Call):GS:=ah (aZ (eJ (bT (aG (cb .tuple (af 0)))) (eJ (aG (aW .ne (bD .len (aa (af 0) aj)) (gI 3))) (bT (aG (ax 68 c (aa (aQ (af 0) (gI 0)) (aa (gI 2) (aa (gI 4) aj)))))))) rF av) (ah (aZ (eJ (bT (aG (ax 68 c (aa (aQ (af 0) (gI 1)) (aa (gI 1) (aa (gI 2) aj)))))) (eJ (bT (aG (cb .tuple (aQ (af 0) (gI 2))))) (bT (aG (lS .le .le (gI 1) (bD .len (aa (aQ (af 0) (gI 2)) aj)) (gI 6)))))) rF av) (ah (aY (aW .eq (cv false 1 (.one 0) (fS (aQ (af 0) (gI 2))) (oX (bT (aG (ax 70 c (aa (af 0) (aa (aQ (af 1) (gI 0)) (aa (aQ (af 1) (gI 1)) aj)))))) (cw (gI 1)))) (ba false aj))) av))
noncomputable def ip (c:Call):GS:=ah (aP (.one 3) (ax 31 c (aa (af 0) (aa (gI 8) aj)))) (ah (aP (.one 4) (ax 31 c (aa (af 0) (aa (gI 20) aj)))) (ah (aP (.one 5) (aA false .sub (ax 31 c (aa (af 0) (aa (gI 9) aj))) (gI 2))) (ah (aZ (ia (aG (cb .tuple (af 1))) (ia (aG (aW .ne (af 1) (bh aj))) (ia (aG (aW .gt (af 2) (gI 0))) (aG (aW .gt (af 4) (gI 4)))))) (ah (aP (.one 6) (ax 31 c (aa (af 0) (aa (bD .len (aa (af 1) aj)) aj)))) (ah (aY (aA false .add (aA false .add (cY false false true (af 1) gN (af 6)) (bh (aa (ax 72 c (aa (af 0) (aa (aQ (af 1) (af 6)) (aa (aA false .sub (af 2) (gI 1)) aj)))) aj))) (cY false true false (af 1) (aA false .add (af 6) (gI 1)) gN))) av)) av) (ah (aP (.one 7) (ba false (aa gN (aa mf (aa wG (aa (gS "") (aa (gS "turn") (aa (gS "join") (aa (gS "move") (aa (gS "put") (aa (gS "Turn") (aa (bh aj) (aa (ba false aj) (aa (aA false .pow (gI 10) (gI 20)) (aa (fT (gI 1)) (aa (gI 0) aj)))))))))))))))) (ah (aP (.one 7) (aA false .add (af 7) (ba false (aa (gI 1) (aa (gI 4) (aa (bh (aa (gI 0) aj)) (aa (ba false (aa (gI 0) aj)) (aa (gS "0") (aa (gI 7) aj))))))))) (ah (aZ (aG (cb .tuple (af 1))) (ah (aP (.one 8) (ba false (aa (bD (.list false) (aa (af 1) aj)) (aa (aA false .add (af 1) (cY false false true (af 1) gN (gI 1))) (aa (cY false false true (af 1) gN (fT (gI 1))) (aa (pT false (af 1)) (aa (aA false .add (af 1) (bh (aa (af 5) aj))) (aa (cY false true false (af 1) (gI 1) gN) (aa (bh (aa (af 1) aj)) aj))))))))) (ah (aY (aQ (aA false .add (af 8) (ba false (aa (aQ (af 7) (af 4)) aj))) (af 3))) av)) av) (ah (aZ (aG (ax 67 c (aa (af 1) aj))) (ah (aY (aQ (ba false (aa (aA false .add (af 1) (gI 1)) (aa (aA false .sub (af 1) (gI 1)) (aa (aA false .sub (gI 0) (af 1)) (aa (af 5) (aa (af 5) (aa (aW .eq (af 1) (gI 1)) (aa (aA false .sub (gI 3) (af 1)) (aa (aQ (af 7) (af 4)) aj))))))))) (af 3))) av) av) (ah (aZ (ia (aG (cb .str (af 1))) (aG (aW .lt (af 3) (gI 3)))) (ah (aY (ax 66 c (aa (af 0) (aa (af 1) aj)))) av) av) (ah (aY (aQ (af 7) (af 4))) av)))))))))
def dM (c:Call):GS:=ah (aP (.one 1) (ba false (aa (cW (some 0) (af 0)) (aa (cW (some 1) (af 0)) (aa (cW (some 2) (af 0)) aj))))) (ah (aP (.one 1) (aA false .add (af 1) (ba false (aa (cW (some 3) (af 0)) (aa (cW (some 4) (af 0)) (aa (cW (some 5) (af 0)) aj)))))) (ah (aP (.one 1) (aA false .add (af 1) (ba false (aa (cW (some 6) (af 0)) (aa (cW (some 7) (af 0)) (aa (cW (some 8) (af 0)) aj)))))) (ah (aP (.one 1) (aA false .add (af 1) (ba false (aa (cW (some 9) (af 0)) (aa (cW (some 10) (af 0)) (aa (cW (some 11) (af 0)) aj)))))) (ah (aP (.one 1) (aA false .add (af 1) (ba false (aa (cW (some 12) (af 0)) (aa (cW (some 13) (af 0)) aj))))) (ah (aZ (eJ (aG (aW .ne (yf (af 1)) (gI 1))) (eJ (bT (aG (cW none (af 0)))) (bT (aG (cW none (af 0)))))) (ah (aY (ba false (aa (gS "odd") aj))) av) av) (ah (aZ (aG (aQ (af 1) (gI 0))) (ah (aY (ba false (aa (gS "row") (aa (k9 "place" (af 0)) aj)))) av) av) (ah (aZ (aG (aQ (af 1) (gI 1))) (ah (aY (ba false (aa (gS "rule") (aa (k9 "number" (af 0)) aj)))) av) av) (ah (aZ (aG (aQ (af 1) (gI 2))) (ah (aY (ba false (aa (gS "step") (aa (k9 "place" (af 0)) aj)))) av) av) (ah (aP (.one 2) (ba false (aa (gS "machine") (aa (gS "long") (aa (gS "word") (aa (gS "work") (aa (gS "bound") (aa (gS "many") (aa (gS "place") (aa (gS "deed") (aa (gS "nothing") (aa (gS "text") (aa (gS "line") aj))))))))))))) (ah (aY (ba false (aa (aQ (af 2) (aA false .sub (yd (af 1)) (gI 3))) aj))) av))))))))))
def cU (c:Call):GS:=ah (aZ (bT (aG (ax 71 c (aa (af 0) aj)))) (ah (aY (ba false (aa (gS "machine") aj))) av) av) (ah (aZ (bT (aG (cb .list (af 1)))) (ah (aY (ba false (aa (gS "row") (aa (gI 0) aj)))) av) av) (ah (eQ (.tup [2,3]) (mR (af 1)) (ah (aZ (bT (aG (ax 68 c (aa (af 3) (aa (gI 0) (aa (aA false .sub (bD .len (aa (aQ (af 0) (gI 2)) aj)) (gI 1)) aj)))))) (ah (aY (ba false (aa (gS "row") (aa (af 2) aj)))) av) av) av)) (ah (aY (ic (aG (aW .gt (bD .len (aa (af 1) aj)) (gI 40))) (ba false (aa (gS "long") aj)) gN)) av)))
def hG (c:Call):GS:=ah (aP (.one 3) gN) (ah (q9 (ah (jv (eO 48 c (aa (af 0) (aa (af 1) (aa (af 2) aj))))) av) 4 (ah (aP (.one 3) (af 4)) av)) (ah (aY (ic (aG (aW .isN (af 3) gN)) (ba false (aa (gS "told") aj)) (ax 75 c (aa (af 3) aj)))) av))
def tP (c:Call):GS:=ah (aP (.one 3) (ax 90 c (aa (af 0) (aa (af 1) aj)))) (ah (aZ (aG (aW .isN (af 3) gN)) (ah (aP (.one 3) (ax 90 c (aa (af 0) (aa (af 2) aj)))) av) av) (ah (aY (ic (aG (aW .isN (af 3) gN)) (ba false (aa (gS "told") aj)) (af 3))) av))
def j8 (c:Call):GS:=ah (aP (.one 3) (ax 31 c (aa (af 0) (aa (gI 5) aj)))) (ah (aP (.one 4) (ax 31 c (aa (af 0) (aa (aA false .add (bD .len (aa (af 2) aj)) (gI 1)) aj)))) (ah (aZ (aG (aW .eq (af 3) (gI 0))) (ah (aY (af 2)) av) av) (ah (aZ (aG (aW .eq (af 3) (gI 1))) (ah (aY (cY false false true (aA false .add (af 2) (aA false .mul (ba false (aa (gI 0) aj)) (gI 41))) gN (gI 41))) av) av) (ah (aZ (aG (aW .eq (af 3) (gI 2))) (ah (aY (aQ (ba false (aa gN (aa (bD .tuple (aa (af 2) aj)) (aa (gS "0") (aa (gI 7) (aa (bh aj) aj)))))) (ax 31 c (aa (af 0) (aa (gI 5) aj))))) av) av) (ah (aY (aA false .add (aA false .add (aA false .add (cY false false true (af 2) gN (af 4)) (ba false (aa (ax 72 c (aa (af 0) (aa (gI 0) (aa (gI 0) aj)))) aj))) (cY false true false (af 2) (af 4) gN)) (aA false .mul (ba false (aa (gI 0) aj)) (aA false .mul (gI 40) (aA false .sub (af 3) (gI 3)))))) av)))))
def E3 (c:Call):GS:=ah (aP (.one 1) (ax 29 c (aa (af 0) aj))) (ah (eQ (.one 2) (d7 (gI 5)) (ah (aP (.one 3) (ax 34 c (aa (ax 30 c (aa (af 1) aj)) (aa (gI 3) (aa (gI 2) (aa (gI 5) aj)))))) (ah (aP (.one 4) (ax 72 c (aa (af 1) (aa (af 3) (aa (gI 5) aj))))) (ah (aP (.one 5) (ax 35 c (aa (af 1) (aa (af 3) (aa (gI 6) aj))))) (ah (eQ (.one 6) (d7 (gI 6)) (ah (aP (.one 7) (ax 96 c (aa (af 1) (aa (af 3) (aa (af 5) aj))))) (ah (aP (.one 8) (ax 96 c (aa (af 1) (aa (af 3) (aa (pT false (af 5)) aj))))) (ah (eQ (.one 9) (fS (ba false (aa (af 3) (aa (af 4) aj)))) (ah (aP (.one 10) (gZ (aa (ba false (aa (af 7) (aa (af 8) aj))) aj))) (ah (aP (.one 11) (ax 95 c (aa (af 9) (aa (af 7) (aa (af 8) aj))))) (ah (aZ (eJ (bT (aG (ax 40 c (aa (ax 94 c (aa (af 9) (aa (af 7) (aa (af 8) aj)))) (aa (af 11) aj))))) (aG (aW .ne (gZ (aa (ba false (aa (af 7) (aa (af 8) aj))) aj)) (af 10)))) rF av) av)))) av)))) av))))) (ah (aY mf) av))
def cT (c:Call):GS:=ah (aP (.one 4) gN) (ah (q9 (ah (aZ (aG (aW .eq (af 0) (gI 0))) (ah (jv (eO 26 c (aa (af 1) (aa (af 2) (aa (af 3) aj))))) av) (ah (jv (eO 27 c (aa (af 1) (aa (af 2) aj)))) av)) av) 5 (ah (aP (.one 4) (af 5)) av)) (ah (aY (ic (aG (aW .isN (af 4) gN)) (ba false (aa (gS "told") aj)) (ax 75 c (aa (af 4) aj)))) av))
def de (c:Call):GS:=ah (aP (.one 4) (ax 90 c (aa (af 1) (aa (af 2) aj)))) (ah (aZ (aG (aW .notN (af 4) gN)) (ah (aY (af 4)) av) av) (ah (aZ (ia (aG (aW .eq (af 0) (gI 0))) (bT (aG (ax 69 c (aa (af 3) (aa (aQ (af 1) (gI 1)) (aa (gI 0) (aa (aA false .sub (aQ (af 1) (gI 0)) (gI 1)) aj)))))))) (ah (aY (ba false (aa (gS "word") aj))) av) av) (ah (aY (ba false (aa (gS "told") aj))) av)))
noncomputable def mn (c:Call):GS:=ah (aP (.one 1) (ax 29 c (aa (af 0) aj))) (ah (eQ (.one 2) (d7 (gI 5)) (ah (aP (.one 3) (ax 34 c (aa (ax 30 c (aa (af 1) aj)) (aa (gI 4) (aa (gI 2) (aa (gI 5) aj)))))) (ah (aP (.one 4) (ax 35 c (aa (af 1) (aa (af 3) (aa (gI 6) aj))))) (ah (aP (.one 5) (bD .tuple (aa (cv false 1 (.one 0) (d7 (aQ (af 3) (gI 1))) (cw (ax 31 c (aa (af 2) (aa (aQ (af 4) (gI 0)) aj))))) aj))) (ah (aP (.one 6) (ax 31 c (aa (af 1) (aa (aA false .add (bD .len (aa (af 4) aj)) (gI 1)) aj)))) (ah (aP (.one 7) (ax 72 c (aa (af 1) (aa (af 3) (aa (gI 5) aj))))) (ah (aP (.one 8) (ba true (aa (bh (aa (af 3) (aa (af 4) (aa (af 5) aj)))) (aa (bh (aa (af 3) (aa (aA false .mul (ba false (aa (gI 0) aj)) (gI 41)) (aa (cY false false true (af 5) gN (fT (gI 1))) aj)))) (aa (bh (aa (af 3) (aa (aA false .add (aA false .mul (ba false (aa (gI 0) aj)) (gI 40)) (ba false (aa (gI 9) aj))) (aa gN aj)))) aj))))) (ah (aP (.one 8) (aA true .add (af 8) (ba false (aa (bh (aa (af 3) (aa (bD .tuple (aa (af 4) aj)) (aa (af 5) aj)))) (aa (bh (aa (af 3) (aa gN (aa (cY false false true (af 5) gN (fT (gI 1))) aj)))) (aa (bh (aa (af 3) (aa (gS "") (aa (af 5) aj)))) aj)))))) (ah (aP (.one 8) (aA true .add (af 8) (ba false (aa (bh (aa (af 3) (aa (aA false .mul (ba false (aa (gI 0) aj)) (gI 41)) (aa (af 5) aj)))) (aa (bh (aa (af 7) (aa (af 4) (aa (af 5) aj)))) (aa (bh (aa (af 7) (aa gN (aa (af 5) aj)))) (aa (bh (aa (af 3) (aa (bh aj) (aa gN aj)))) aj))))))) (ah (iH (af 8) (bh (aa (af 3) (aa (aA false .add (aA false .add (aA false .add (cY false false true (af 4) gN (af 6)) (ba false (aa (ax 72 c (aa (af 1) (aa (gI 0) (aa (gI 0) aj)))) aj))) (cY false true false (af 4) (af 6) gN)) (ba false (aa (fT (gI 1)) aj))) (aa (af 5) aj))))) (ah (eQ (.one 9) (d7 (gI 6)) (ah (aP (.one 10) (ax 31 c (aa (af 1) (aa (gI 7) aj)))) (ah (aP (.one 11) (ba true (aa (af 3) (aa (af 4) (aa (af 5) aj))))) (ah (aZ (aG (aW .isin (af 10) (bh (aa (gI 0) (aa (gI 3) (aa (gI 4) aj)))))) (ah (dW (af 11) (gI 0) (ax 72 c (aa (af 1) (aa (af 3) (aa (gI 5) aj))))) av) av) (ah (aZ (aG (aW .isin (af 10) (bh (aa (gI 1) (aa (gI 3) (aa (gI 5) (aa (gI 6) aj))))))) (ah (dW (af 11) (gI 1) (aA false .add (af 4) (ba false (aa (ax 72 c (aa (af 1) (aa (gI 0) (aa (gI 0) aj)))) aj)))) av) av) (ah (aZ (aG (aW .isin (af 10) (bh (aa (gI 2) (aa (gI 4) (aa (gI 5) aj)))))) (ah (dW (af 11) (gI 2) (ax 72 c (aa (af 1) (aa (af 5) (aa (gI 1) aj))))) av) av) (ah (iH (af 8) (bh (aa (aQ (af 11) (gI 0)) (aa (aQ (af 11) (gI 1)) (aa (aQ (af 11) (gI 2)) aj))))) av))))))) (ah (eQ (.tup [12,13,14]) (fS (af 8)) (ah (eQ (.one 6) (d7 (gI 2)) (ah (aP (.one 15) (gZ (aa (af 13) aj))) (ah (aP (.one 16) (ax 99 c (aa (af 6) (aa (af 12) (aa (af 13) (aa (af 14) aj)))))) (ah (aZ (eJ (bT (aG (ax 40 c (aa (ax 98 c (aa (af 6) (aa (af 12) (aa (af 13) (aa (af 14) aj))))) (aa (af 16) aj))))) (aG (aW .ne (gZ (aa (af 13) aj)) (af 15)))) rF av) av)))) av)) (ah (eQ (.one 14) (fS (ba false (aa (ba false (aa (aQ (af 5) (gI 0)) aj)) (aa gN (aa mf (aa (gI 0) (aa (gS "0") (aa (aA false .mul (bh (aa mf aj)) (aQ (af 3) (gI 1))) (aa (aA false .add (af 5) (bh (aa (gI 0) aj))) (aa (bh aj) aj)))))))))) (ah (aZ (bT (aG (ax 40 c (aa (ax 98 c (aa (gI 0) (aa (af 3) (aa (af 4) (aa (af 14) aj))))) (aa (ax 99 c (aa (gI 0) (aa (af 3) (aa (af 4) (aa (af 14) aj))))) aj))))) rF av) av)) av))))))))))))) (ah (aY mf) av))
end LD
namespace LD
open PySem
@[simp] theorem bL {α β:Type}{r:Res α}{f:α->Mem->Res β}{k:β->Mem->Prop}:aq (r.bind f) k↔aq r fun a M=>aq (f a M) k:=by cases r<;>rfl
@[simp] theorem du {α:Type}{a:α}{M:Mem}{k:α->Mem->Prop}:aq (.ok a M) k↔k a M:=Iff.rfl
@[simp] theorem MX {α:Type}{k:α->Mem->Prop}:aq (.bad:Res α) k↔False:=Iff.rfl
@[simp] theorem kQ {α:Type}{M:Mem}{o:Option α}{k:α->Mem->Prop}:aq (dg M o) k↔∃a,o=some a/\k a M:=by cases o<;>simp [dg]
theorem qA {α:Type}{r:Res α}{k:α->Mem->Prop}:aq r k↔∃a M,r=.ok a M/\k a M:=by
 cases r with
 |ok a M=>exact ⟨fun h=>⟨a,M,rfl,h⟩,fun ⟨_,_,e,h⟩=>by cases e;exact h⟩
 |err=>simp [aq]
 |bad=>simp [aq]
theorem sd {x y:D}{M:Mem}{v:Bool}(px:aK 64 (view M x)=true)(py:aK 64 (view M y)=true)(h:bH (view M x) (view M y)=v):bU .eq x y M=some v:=by
 have e:qQ (view M x) (view M y)=some v:=by unfold qQ;rw [px,py,h];simp
 show mi M x y=_
 unfold mi;rw [e]
theorem r9 {x y:D}{M:Mem}{v:Bool}(px:aK 64 (view M x)=true)(py:aK 64 (view M y)=true)(h:bH (view M x) (view M y)=v):bU .ne x y M=some (!v):=by
 show (bU .eq x y M).map (!·)=_
 rw [sd px py h];rfl
section
variable {Z:Env}{M:Mem}{a b d lo hi:GE}{s:GA}{t u:GT}{k:D->Mem->Prop}{c:Call}
@[simp] theorem bf {i:Nat}:aq (af i Z M) k↔∃d,Z[i]?.getD none=some d/\k d M:=by simp [af]
@[simp] theorem cZ {d:D}:aq (gC d Z M) k↔k d M:=Iff.rfl
@[simp] theorem dv {m:Bool}{o:ph}:aq (aA m o a b Z M) k↔aq (a Z M) fun x M=>aq (b Z M) fun y M=>aq (fH m o x y M) k:=by simp [aA]
@[simp] theorem jf {o:iM}:aq (aW o a b Z M) k↔aq (a Z M) fun x M=>aq (b Z M) fun y M=>∃v,bU o x y M=some v/\k (.bl v) M:=by simp [aW]
@[simp] theorem JJ {o o':iM}:aq (lS o o' a b d Z M) k↔aq (a Z M) fun x M=>aq (b Z M) fun y M=>∃v,bU o x y M=some v/\if v=true then aq (d Z M) fun z M=>∃v,bU o' y z M=some v/\k (.bl v) M else k (.bl false) M:=by
 simp only [lS,bL,kQ]
 refine iff_of_eq ?_
 congr 1;funext x M;congr 1;funext y M;refine propext (exists_congr fun v=>and_congr_right fun _=>?_)
 cases v<;>simp
@[simp] theorem yj:aq (fT a Z M) k↔aq (a Z M) fun x M=>∃i,x=.int i/\k (.int (-i)) M:=by
 simp only [fT,bL];refine iff_of_eq ?_;congr 1;funext x M;cases x<;>simp
@[simp] theorem C4:aq (eT a b Z M) k↔aq (a Z M) fun x M=>∃v,x=.bl v/\if v=true then aq (b Z M) k else k (.bl false) M:=by
 simp only [eT,bL];refine iff_of_eq ?_;congr 1;funext x M;cases x<;>simp
 rename_i v;cases v<;>simp
@[simp] theorem JI:aq (ic t a b Z M) k↔aq (t Z M) fun v M=>if v=true then aq (a Z M) k else aq (b Z M) k:=by
 simp only [ic,bL];refine iff_of_eq ?_;congr 1;funext v M;cases v<;>simp
@[simp] theorem g8:aq (aQ a b Z M) k↔aq (a Z M) fun x M=>aq (b Z M) fun y M=>∃d,fo x y M=some d/\k d M:=by simp [aQ]
@[simp] theorem mS {m hl hh:Bool}:aq (cY m hl hh a lo hi Z M) k↔aq (a Z M) fun x M=>aq (lo Z M) fun l M=>aq (hi Z M) fun h M=>cy hl l=true/\cy hh h=true/\aq (eK m x l h M) k:=by
 simp only [cY,bL]
 refine iff_of_eq ?_
 congr 1;funext x M;congr 1;funext l M;congr 1;funext h M
 cases cy hl l<;>cases cy hh h<;>simp
@[simp] theorem bB {k:List D->Mem->Prop}:aq (aj Z M) k↔k [] M:=Iff.rfl
@[simp] theorem bc {k:List D->Mem->Prop}:aq (aa a s Z M) k↔aq (a Z M) fun x M=>aq (s Z M) fun xs M=>k (x::xs) M:=by simp [aa]
@[simp] theorem g7:aq (bh s Z M) k↔aq (s Z M) fun xs M=>xs.length<=sz/\k (.tup xs) M:=by
 simp only [bh,bL];refine iff_of_eq ?_;congr 1;funext xs M;unfold mM;split<;>simp [*]
theorem u3 {m:Bool}{xs:List D}:aq (bQ m xs M) k↔xs.length<=sz/\if m=true then k (.cell M.length) (M++[xs]) else k (.lst xs) M:=by
 unfold bQ;cases m<;>split<;>simp [*]
@[simp] theorem bW {xs:List D}:aq (bQ false xs M) k↔xs.length<=sz/\k (.lst xs) M:=by simp [u3]
@[simp] theorem wm {xs:List D}:aq (bQ true xs M) k↔xs.length<=sz/\k (.cell M.length) (M++[xs]):=by simp [u3]
@[simp] theorem lH {m:Bool}:aq (ba m s Z M) k↔aq (s Z M) fun xs M=>aq (bQ m xs M) k:=by simp [ba]
@[simp] theorem ff {f:Nat}:aq (ax f c s Z M) k↔aq (s Z M) fun ds M=>aq (c f ds M) k:=by simp [ax]
@[simp] theorem EE {i:Nat}:aq (nS i c s Z M) k↔∃f,Z[i]?.getD none=some (.fn f)/\aq (s Z M) fun ds M=>aq (c f ds M) k:=by
 unfold nS
 cases e:Z[i]?.getD none with
 |none=>simp
 |some d=>cases d<;>simp
@[simp] theorem fg {f:vH}:aq (bD f s Z M) k↔aq (s Z M) fun ds M=>aq (gM f ds M) k:=by simp [bD]
@[simp] theorem vp {t:Ty}:aq (cb t a Z M) k↔aq (a Z M) fun x M=>∃v,bZ t x=some v/\k (.bl v) M:=by simp [cb]
@[simp] theorem H8 {fs:List (Str×Nat)}:aq (oF fs a Z M) k↔aq (a Z M) fun x M=>∃y f,x=.str y/\fs.lookup y=some f/\k (.fn f) M:=by
 simp only [oF,bL];refine iff_of_eq ?_;congr 1;funext x M;cases x<;>simp
 exact ⟨fun ⟨_,⟨f,h,e⟩,q⟩=>⟨f,h,e ▸ q⟩,fun ⟨f,h,q⟩=>⟨_,⟨f,h,rfl⟩,q⟩⟩
@[simp] theorem Nn {fs:List (Str×Nat)}:aq (oE fs a Z M) k↔aq (a Z M) fun x M=>∃y,x=.str y/\k (.bl (!(fs.lookup y).isSome)) M:=by
 simp only [oE,bL];refine iff_of_eq ?_;congr 1;funext x M;cases x<;>simp
@[simp] theorem ED {m:Bool}:aq (nR m a Z M) k↔aq (a Z M) fun x M=>∃n,x=.int n/\(-(2^62)<=n/\n<2^20)/\aq (bQ m ((List.range n.toNat).map fun (k:Nat)=>D.int (k:Int)) M) k:=by
 simp only [nR,bL];refine iff_of_eq ?_;congr 1;funext x M
 cases x<;>simp
 rename_i n
 split<;>simp [*]
variable {kb:Bool->Mem->Prop}
@[simp] theorem iP:aq (aG a Z M) kb↔aq (a Z M) fun x M=>∃v,lN M x=some v/\kb v M:=by simp [aG]
@[simp] theorem IT:aq (ia t u Z M) kb↔aq (t Z M) fun v M=>if v=true then aq (u Z M) kb else kb false M:=by
 simp only [ia,bL];refine iff_of_eq ?_;congr 1;funext v M;cases v<;>simp
@[simp] theorem AN:aq (eJ t u Z M) kb↔aq (t Z M) fun v M=>if v=true then kb true M else aq (u Z M) kb:=by
 simp only [eJ,bL];refine iff_of_eq ?_;congr 1;funext v M;cases v<;>simp
@[simp] theorem tV:aq (bT t Z M) kb↔aq (t Z M) fun v M=>kb (!v) M:=by simp [bT]
variable {kf:Fl->Mem->Prop}{sa sb:GS}
def mz (b:GS)(k:Fl->Mem->Prop):Fl->Mem->Prop
 |.next Z,M=>aq (b Z M) k
 |.ret d,M=>k (.ret d) M
 |.exc x Z,M=>k (.exc x Z) M
@[simp] theorem KN {b:GS}{x:D}:mz b kf (.exc x Z) M↔kf (.exc x Z) M:=Iff.rfl
@[simp] theorem eW {b:GS}:mz b kf (.next Z) M↔aq (b Z M) kf:=Iff.rfl
@[simp] theorem uq {b:GS}{d:D}:mz b kf (.ret d) M↔kf (.ret d) M:=Iff.rfl
@[simp] theorem aN:aq (ah sa sb Z M) kf↔aq (sa Z M) (mz sb kf):=by
 simp only [ah,bL];refine iff_of_eq ?_;congr 1;funext fl M;cases fl<;>rfl
@[simp] theorem ql:aq (av Z M) kf↔kf (.next Z) M:=Iff.rfl
@[simp] theorem fZ {i:Nat}:aq (aP (.one i) a Z M) kf↔aq (a Z M) fun x M=>kf (.next (Z.set i (some x))) M:=by simp [aP,dw]
@[simp] theorem FD {l:List Nat}:aq (aP (.tup l) a Z M) kf↔aq (a Z M) fun x M=>∃ds ρ1,x=.tup ds/\gG l ds Z=some ρ1/\kf (.next ρ1) M:=by
 simp only [aP,bL,kQ,du];refine iff_of_eq ?_;congr 1;funext x M;cases x<;>simp [dw]
@[simp] theorem zc:aq (dW a b d Z M) kf↔aq (d Z M) fun z M=>aq (a Z M) fun x M=>aq (b Z M) fun y M=>∃j n ds i,x=.cell j/\y=.int n/\M[j]?=some ds/\bR ds.length n=some i/\kf (.next Z) (M.set j (ds.set i z)):=by
 simp only [dW,bL]
 refine iff_of_eq ?_
 congr 1;funext z M;congr 1;funext x M;congr 1;funext y M
 cases x with
 | cell j =>
   cases y with
   | int n =>
     cases e:M[j]? with
     |none=>simp [e]
     | some ds =>
       cases e2:bR ds.length n with
       |none=>simp [e,e2]
       |some i=>simp [e,e2]
   |_=>simp
 |_=>simp
@[simp] theorem uM:aq (iH a d Z M) kf↔aq (a Z M) fun x M=>aq (d Z M) fun z M=>∃j ds,x=.cell j/\M[j]?=some ds/\ds.length<sz/\kf (.next Z) (M.set j (ds++[z])):=by
 simp only [iH,bL]
 refine iff_of_eq ?_
 congr 1;funext x M;congr 1;funext z M
 cases x<;>simp
 rename_i j
 cases e:M[j]? with
 |none=>simp
 |some ds=>by_cases h:ds.length<sz<;>simp [h]
@[simp] theorem cx:aq (aY a Z M) kf↔aq (a Z M) fun x M=>kf (.ret x) M:=by simp [aY]
@[simp] theorem Mv:aq (Ja Z M) kf↔kf (.ret .non) M:=Iff.rfl
@[simp] theorem Mw:aq (Jb Z M) kf↔kf (.next Z) M:=Iff.rfl
@[simp] theorem MU:aq (K1 Z M) kf↔False:=Iff.rfl
@[simp] theorem jP:aq (aZ t sa sb Z M) kf↔aq (t Z M) fun v M=>if v=true then aq (sa Z M) kf else aq (sb Z M) kf:=by
 simp only [aZ,bL];refine iff_of_eq ?_;congr 1;funext v M;cases v<;>simp
variable {kw:Walk->Mem->Prop}
@[simp] theorem iO:aq (d7 a Z M) kw↔aq (a Z M) fun x M=>∃n,x=.int n/\(-(2^62)<=n/\n<2^62)/\kw (fun _=>some ((List.range n.toNat).map fun (k:Nat)=>D.int (k:Int))) M:=by
 simp only [d7,bL];refine iff_of_eq ?_;congr 1;funext x M;cases x<;>simp
 rename_i n
 split<;>simp [*]
@[simp] theorem Cu:aq (fS a Z M) kw↔aq (a Z M) fun x M=>eE x=true/\kw (fun M=>cL M x) M:=by
 simp only [fS,bL];refine iff_of_eq ?_;congr 1;funext x M;cases x<;>simp [eE]<;>rfl
@[simp] theorem nq:aq (mR a Z M) kw↔aq (a Z M) fun x M=>(eE x&&jI x)=true/\kw (fun M=>(cL M x).map (dD 0)) M:=by
 simp only [mR,bL];refine iff_of_eq ?_;congr 1;funext x M;cases x<;>simp [eE,jI]<;>rfl
@[simp] theorem ME:aq (oB a b Z M) kw↔aq (a Z M) fun x M=>aq (b Z M) fun y M=>(eE x&&eE y)=true/\kw (oi x y) M:=by
 simp only [oB,bL];refine iff_of_eq ?_;congr 1;funext x M;congr 1;funext y M;split<;>simp [*]
def jA (k:D->Mem->Prop):Fl->Mem->Prop
 |.ret d,M=>k d M
 |.next _,M=>k .non M
 |.exc _ _,_=>False
@[simp] theorem MA {d:D}:jA k (.ret d) M↔k d M:=Iff.rfl
@[simp] theorem Mb:jA k (.next Z) M↔k .non M:=Iff.rfl
theorem aM {P:Nat->Option Df}{n f:Nat}{d:Df}{ds:List D}(e:P f=some d)(hl:ds.length=d.params)(h:aq (d.body (aw P n) (ds.map some++List.replicate (d.slots-ds.length) none) M) (jA k)):aq (aw P (n+1) f ds M) k:=by
 show aq (match P f with|none=>Res.bad|some d=>iI (aw P n) d ds M) k
 rw [e]
 show aq (iI (aw P n) d ds M) k
 unfold iI
 rw [if_pos hl]
 revert h
 cases d.body (aw P n) (ds.map some++List.replicate (d.slots-ds.length) none) M with
 |ok fl M=>cases fl<;>exact id
 |err=>exact id
 |bad=>exact id
@[simp] theorem MY {α:Type}{a:α}{k:α->Mem->Prop}{kx:D->Mem->Prop}:lA (.ok a M) k kx↔k a M:=Iff.rfl
@[simp] theorem My {α:Type}{x:D}{k:α->Mem->Prop}{kx:D->Mem->Prop}:lA (.err x M:Res α) k kx↔kx x M:=Iff.rfl
def yh (k kx:D->Mem->Prop):Fl->Mem->Prop
 |.ret d,M=>k d M
 |.next _,M=>k .non M
 |.exc x _,M=>kx x M
theorem fU {P:Nat->Option Df}{n f:Nat}{d:Df}{ds:List D}{kx:D->Mem->Prop}(e:P f=some d)(hl:ds.length=d.params)(h:aq (d.body (aw P n) (ds.map some++List.replicate (d.slots-ds.length) none) M) (yh k kx)):lA (aw P (n+1) f ds M) k kx:=by
 show lA (match P f with|none=>Res.bad|some d=>iI (aw P n) d ds M) k kx
 rw [e]
 show lA (iI (aw P n) d ds M) k kx
 unfold iI
 rw [if_pos hl]
 revert h
 cases d.body (aw P n) (ds.map some++List.replicate (d.slots-ds.length) none) M with
 |ok fl M=>cases fl<;>exact id
 |err=>exact id
 |bad=>exact id
theorem fc {α:Type}{r:Res α}{x:D}{M':Mem}(h:lA r (fun _ _=>False) fun y M=>y=x/\M=M'):r=.err x M':=by
 cases r with
 |ok=>exact h.elim
 |err y M=>obtain ⟨rfl,rfl⟩:=h;rfl
 |bad=>exact h.elim
@[simp] theorem Nl {d:D}{kx:D->Mem->Prop}:yh k kx (.ret d) M↔k d M:=Iff.rfl
@[simp] theorem Mz {kx:D->Mem->Prop}:yh k kx (.next Z) M↔k .non M:=Iff.rfl
@[simp] theorem Nm {x:D}{kx:D->Mem->Prop}:yh k kx (.exc x Z) M↔kx x M:=Iff.rfl
@[simp] theorem dZ {f:Nat}{kx:D->Mem->Prop}:lA (eO f c s Z M) k kx↔aq (s Z M) fun ds M=>lA (c f ds M) k kx:=by
 unfold eO
 cases s Z M<;>rfl
@[simp] theorem eZ:aq (jv a Z M) kf↔lA (a Z M) (fun _ M=>kf (.next Z) M) (fun x M=>kf (.exc x Z) M):=by
 unfold jv
 cases a Z M<;>rfl
@[simp] theorem K0 {i:Nat}:aq (jQ i s Z M) kf↔aq (s Z M) fun ds M=>ds.length<=sz/\kf (.exc (.exc i none) Z) M:=by
 unfold jQ
 cases s Z M with
 |ok ds M1=>by_cases h:ds.length<=sz<;>simp [h]
 |err=>exact Iff.rfl
 |bad=>exact Iff.rfl
def HY (i:Nat)(kf:Fl->Mem->Prop):Fl->Mem->Prop
 |.next Z,M=>kf (.next (Z.set i none)) M
 |.ret d,M=>kf (.ret d) M
 |.exc _ _,_=>False
def KI (i:Nat)(h:GS)(kf:Fl->Mem->Prop):Fl->Mem->Prop
 |.exc x Z,M=>aq (h (Z.set i (some x)) M) (HY i kf)
 |fl,M=>kf fl M
@[simp] theorem uK {i:Nat}{h:GS}:aq (q9 sa i h Z M) kf↔aq (sa Z M) (KI i h kf):=by
 simp only [q9,bL];refine iff_of_eq ?_;congr 1;funext fl M
 cases fl with
 | exc x Z =>
   show aq ((h (Z.set i (some x)) M).bind (Az i)) kf=aq (h (Z.set i (some x)) M) (HY i kf)
   simp only [bL];congr 1;funext fl M;cases fl<;>rfl
 |next Z=>rfl
 |ret d=>rfl
theorem xR {α:Type}(f:α->D->Mem->Res α)(ds:List D):∀(m i:Nat) (a:α) (M:Mem),ds.length-i<m->i<=ds.length->fR f (fun _=>some ds) m i a M=C3 f (ds.drop i) a M
 |0,i,a,M,h,_=>absurd h (Nat.not_lt_zero _)
 | m + 1, i, a, M, h, hi => by
   show (match ds[i]? with|none=>Res.ok a M|some d=>(f a d M).bind (fR f (fun _=>some ds) m (i+1)))=_
   by_cases hlt:i<ds.length
   ·rw [List.drop_eq_getElem_cons hlt,List.getElem?_eq_getElem hlt]
    show (f a ds[i] M).bind _=(f a ds[i] M).bind _
    congr 1
    funext a M
    exact xR f ds m (i+1) a M (by omega) hlt
   ·have e:i=ds.length:=by omega
    subst e
    rw [List.getElem?_eq_none (tqg _),List.drop_length]
    rfl
theorem iE {α:Type}{f:α->D->Mem->Res α}{w:Walk}{ds:List D}{a:α}{k:α->Mem->Prop}(I:Nat->α->Mem->Prop)(hw:∀i a M,I i a M->w M=some ds)(h0:I 0 a M)
 (hs:∀i d a M,ds[i]?=some d->I i a M->aq (f a d M) (I (i+1))) (hk:∀a M,I ds.length a M->k a M):aq (d3 f w a M) k:=by
 have key:∀(m i:Nat) (a:α) (M:Mem),ds.length-i<m->i<=ds.length->I i a M->aq (fR f w m i a M) k:=by
  intro m
  induction m with
  |zero=>intro i a M h;exact absurd h (Nat.not_lt_zero _)
  | succ m ih =>
    intro i a M h hi hI
    show aq (match w M with|none=>Res.bad|some ds=>match ds[i]? with|none=>Res.ok a M|some d=>(f a d M).bind (fR f w m (i+1))) k
    rw [hw i a M hI]
    dsimp only
    by_cases hlt:i<ds.length
    ·rw [List.getElem?_eq_getElem hlt]
     simp only [bL]
     exact bb (hs i ds[i] a M (List.getElem?_eq_getElem hlt) hI) fun a' M' h'=>ih (i+1) a' M' (by omega) hlt h'
    ·have e:i=ds.length:=by omega
     subst e
     rw [List.getElem?_eq_none (tqg _)]
     exact hk a M hI
 unfold d3
 rw [hw 0 a M h0]
 exact key _ 0 a M (by simp) (Nat.zero_le _) h0
theorem eF {t:dN}{w:Walk}{gb:GS}{ds:List D}(I:Nat->Env->Mem->Prop)(hw:∀i Z M,I i Z M->w M=some ds)(h0:I 0 Z M)
 (hs:∀i d Z M,ds[i]?=some d->I i Z M->∃ρ1,dw t d Z=some ρ1/\aq (gb ρ1 M) fun fl M=>∃ρ',fl=.next ρ'/\I (i+1) ρ' M) (hk:∀Z M,I ds.length Z M->kf (.next Z) M):aq (d3 (iQ t gb) w (.next Z) M) kf:=by
 refine iE (fun i fl M=>∃Z,fl=.next Z/\I i Z M) (fun i fl M ⟨Z,_,h⟩=>hw i Z M h) ⟨Z,rfl,h0⟩ ?_ ?_
 ·rintro i d fl M hd ⟨Z,rfl,hI⟩
  obtain ⟨ρ1,e,h⟩:=hs i d Z M hd hI
  simp only [iQ,bL,kQ,e]
  exact ⟨ρ1,rfl,h⟩
 ·rintro fl M ⟨Z,rfl,hI⟩
  exact hk Z M hI
@[simp] theorem gJ {tg:dN}{w:GW}{gb:GS}:aq (eQ tg w gb Z M) kf↔aq (w Z M) fun w M=>aq (d3 (iQ tg gb) w (.next Z) M) kf:=by simp [eQ]
@[simp] theorem jW {m:Bool}{n:Nat}{tg:dN}{w:GW}{g:GB}:aq (cv m n tg w g Z M) k↔aq (w Z M) fun w M=>aq (d3 (d5 tg g (List.replicate n none++Z)) w [] M) fun acc M=>aq (bQ m acc M) k:=by simp [cv]
variable {kl:List D->Mem->Prop}
@[simp] theorem C8 {ge:GE}{acc:List D}:aq (cw ge Z acc M) kl↔aq (ge Z M) fun x M=>acc.length<sz/\kl (acc++[x]) M:=by
 simp only [cw,bL];refine iff_of_eq ?_;congr 1;funext x M;split<;>simp [*]
theorem comp_map {tg:dN}{w:Walk}{ge:GE}{ds:List D}{ρ0:Env}(I:Nat->List D->Mem->Prop)(hz:ds.length<=sz)(hw:∀i acc M,I i acc M->w M=some ds)(h0:I 0 [] M)
 (hs:∀i d acc M,ds[i]?=some d->acc.length=i->I i acc M->∃ρ1,dw tg d ρ0=some ρ1/\aq (ge ρ1 M) fun x M=>I (i+1) (acc++[x]) M) (hk:∀acc M,acc.length=ds.length->I ds.length acc M->kl acc M) :
 aq (d3 (d5 tg (cw ge) ρ0) w [] M) kl:=by
 refine iE (fun i acc M=>acc.length=i/\I i acc M) (fun i acc M h=>hw i acc M h.2) ⟨rfl,h0⟩ ?_ (fun acc M h=>hk acc M h.1 h.2)
 rintro i d acc M hd ⟨hl,hI⟩
 obtain ⟨ρ1,e,h⟩:=hs i d acc M hd hl hI
 have hi:i<ds.length:=(List.getElem?_eq_some_iff.mp hd).1
 simp only [d5,bL,kQ,e,C8]
 exact ⟨ρ1,rfl,bb h fun x M h=>⟨by omega,by simp [hl],h⟩⟩
end
theorem aI {t:GT}{A rest:GS}{Z:Env}{M:Mem}{k:Fl->Mem->Prop}(ht:t Z M=.ok false M)(h:aq (rest Z M) k):aq (ah (aZ t A av) rest Z M) k:=by
 simp only [aN,jP]
 rw [ht]
 exact h
theorem bI {t:GT}{e:GE}{rest:GS}{Z:Env}{M:Mem}{v:D}{k:Fl->Mem->Prop}(ht:t Z M=.ok true M)(he:e Z M=.ok v M)(h:k (.ret v) M):aq (ah (aZ t (ah (aY e) av) av) rest Z M) k:=by
 simp only [aN,jP,cx]
 rw [ht]
 show aq (e Z M) _
 rw [he]
 exact h
theorem cR {e:GE}{Z:Env}{M:Mem}{v:D}{k:Fl->Mem->Prop}(he:e Z M=.ok v M)(h:k (.ret v) M):aq (ah (aY e) av Z M) k:=by
 simp only [aN,cx]
 rw [he]
 exact h
theorem dj {r:Res Fl}{v:D}{M:Mem}(e:r=.ok (.ret v) M):aq r (jA fun x M'=>x=v/\M'=M):=by rw [e];exact ⟨rfl,rfl⟩
end LD
namespace LD
open PySem
structure HasM0 (P:Nat->Option Df):Prop where
 is_between:P 0=some ⟨3,3,fK⟩
 is_word:P 1=some ⟨2,2,jX⟩
 is_place:P 2=some ⟨2,2,jj⟩
 is_cost:P 3=some ⟨1,1,jY⟩
 is_tuple_of:P 4=some ⟨2,2,gi⟩
 is_table:P 5=some ⟨2,2,ji⟩
 is_double_table:P 6=some ⟨2,2,eB⟩
 is_turn:P 7=some ⟨3,6,gO⟩
 is_join:P 8=some ⟨3,7,gQ⟩
 is_move:P 9=some ⟨3,6,gP⟩
 is_put:P 10=some ⟨3,6,iJ⟩
 is_deed:P 11=some ⟨3,5,gR⟩
 is_machine:P 12=some ⟨1,4,fJ⟩
 need_machine:P 13=some ⟨1,1,dn⟩
 is_deed_number:P 16=some ⟨2,2,eP⟩
 need_numbers:P 17=some ⟨2,4,cJ⟩
 need_row:P 18=some ⟨2,2,dP⟩
structure HasM (P:Nat->Option Df):Prop extends HasM0 P where
 turned:P 20=some ⟨2,6,mV⟩
 joined:P 21=some ⟨2,7,mX⟩
 moved:P 22=some ⟨2,6,oP⟩
 put_in:P 23=some ⟨2,6,mW⟩
 done:P 24=some ⟨2,4,qT⟩
 all_standing:P 25=some ⟨3,5,g9⟩
structure HasP0 (P:Nat->Option Df):Prop where
 law_spread:P 28=some ⟨2,6,iz⟩
 law_open:P 29=some ⟨1,4,jK⟩
 law_anew:P 30=some ⟨1,1,jL⟩
 law_take:P 31=some ⟨2,5,lU⟩
structure HasP (P:Nat->Option Df):Prop extends HasP0 P where
 law_tab:P 32=some ⟨2,6,jk⟩
 law_deed:P 33=some ⟨3,7,ik⟩
 law_machine:P 34=some ⟨4,8,fL⟩
instance coeHasM {P:Nat->Option Df}:Coe (HasM P) (HasM0 P):=⟨HasM.toHasM0⟩
instance coeHasP {P:Nat->Option Df}:Coe (HasP P) (HasP0 P):=⟨HasP.toHasP0⟩
@[simp] theorem Nr {d:Option D}{r:Env}:(d::r)[0]?.getD none=d:=rfl
section
variable {M:Mem}{k:D->Mem->Prop}
theorem kS {α:Type}{c:Prop}[Decidable c]{r:Res α}{k:α->Mem->Prop}:aq (if c then r else .bad) k↔c/\aq r k:=by split<;>simp [*]
@[simp] theorem gV {m:Bool}{i j:Int}:aq (fH m .add (.int i) (.int j) M) k↔k (.int (i+j)) M:=Iff.rfl
@[simp] theorem nr {m:Bool}{i j:Int}:aq (fH m .sub (.int i) (.int j) M) k↔k (.int (i-j)) M:=Iff.rfl
@[simp] theorem vf {m:Bool}{i j:Int}:aq (fH m .mul (.int i) (.int j) M) k↔((-(2^64)<i/\i<2^64)\/(-(2^64)<j/\j<2^64))/\k (.int (i*j)) M:=kS
@[simp] theorem qF {m:Bool}{i j:Int}:aq (fH m .mod (.int i) (.int j) M) k↔0<j/\k (.int (i % j)) M:=kS
@[simp] theorem MB {m:Bool}{i j:Int}:aq (fH m .fdiv (.int i) (.int j) M) k↔(0<j/\j<1073741824)/\k (.int (i / j)) M:=kS
@[simp] theorem uR {m:Bool}{i j:Int}:aq (fH m .pow (.int i) (.int j) M) k↔(0<=j/\j<=1000000/\i.natAbs<2^64)/\k (.int (i^j.toNat)) M:=kS
@[simp] theorem ll {m:Bool}{x y:List D}:aq (fH m .add (.tup x) (.tup y) M) k↔(x++y).length<=sz/\k (.tup (x++y)) M:=by
 show aq (mM _ _) k↔_
 unfold mM;exact kS
@[simp] theorem jZ {m:Bool}{x y:List D}:aq (fH m .add (.lst x) (.lst y) M) k↔aq (bQ m (x++y) M) k:=Iff.rfl
@[simp] theorem MF {i j:Int}:bU .lt (.int i) (.int j) M=some (decide (i<j)):=rfl
@[simp] theorem MG {i j:Int}:bU .le (.int i) (.int j) M=some (decide (i<=j)):=rfl
@[simp] theorem MH {i j:Int}:bU .gt (.int i) (.int j) M=some (decide (j<i)):=rfl
@[simp] theorem MI {i j:Int}:bU .ge (.int i) (.int j) M=some (decide (j<=i)):=rfl
@[simp] theorem Nt {i j:Int}:bU .eq (.int i) (.int j) M=some (i==j):=rfl
@[simp] theorem J1 {i j:Int}:bU .ne (.int i) (.int j) M=some (!(i==j)):=rfl
@[simp] theorem MO {b:Bool}:lN M (.bl b)=some b:=rfl
@[simp] theorem Mq {ds:List D}:lN M (.tup ds)=some (!ds.isEmpty):=rfl
@[simp] theorem Mr {ds:List D}:lN M (.lst ds)=some (!ds.isEmpty):=rfl
@[simp] theorem oy {ds:List D}:aq (gM .len [.tup ds] M) k↔k (.int ds.length) M:=Iff.rfl
@[simp] theorem El {ds:List D}:aq (gM .len [.lst ds] M) k↔k (.int ds.length) M:=Iff.rfl
@[simp] theorem E5 {ds:List D}:aq (gM .all [.lst ds] M) k↔∃bs,boolsOf ds=some bs/\k (.bl (bs.all id)) M:=by
 show aq (match boolsOf ds with|some bs=>_|none=>_) k↔_
 cases boolsOf ds<;>simp
@[simp] theorem yL {ds:List D}:aq (gM .tuple [.lst ds] M) k↔k (.tup ds) M:=Iff.rfl
@[simp] theorem wY {j:Nat}:aq (gM .tuple [.cell j] M) k↔∃ds,M[j]?=some ds/\k (.tup ds) M:=by
 show aq (match M[j]? with|some xs=>_|none=>_) k↔_
 cases M[j]?<;>simp
@[simp] theorem BL {m:Bool}{ds:List D}:aq (gM (.list m) [.lst ds] M) k↔aq (bQ m ds M) k:=Iff.rfl
@[simp] theorem jz {ds:List D}{i:Int}:fo (.tup ds) (.int i) M=(bR ds.length i).bind fun j=>ds[j]?:=rfl
@[simp] theorem wC {ds:List D}{i:Int}:fo (.lst ds) (.int i) M=(bR ds.length i).bind fun j=>ds[j]?:=rfl
@[simp] theorem L7 {j:Nat}{i:Int}:fo (.cell j) (.int i) M=(M[j]?).bind fun ds=>(bR ds.length i).bind fun j=>ds[j]?:=rfl
theorem fG {n i:Nat}(h:i<n):bR n (i:Int)=some i:=by
 unfold bR;rw [if_pos (Int.natCast_nonneg i),if_pos (by exact_mod_cast h)];rfl
theorem Er {n:Nat}(h:0<n):bR n (-1)=some (n-1):=by
 unfold bR
 rw [if_neg (by omega),if_pos (by omega)]
 congr 1;omega
end
theorem aU {α:Type}{r:Res α}{d:α}{M:Mem}(h:aq r fun x M'=>x=d/\M'=M):r=.ok d M:=by
 obtain ⟨a,M',e,rfl,rfl⟩:=qA.mp h
 exact e
theorem aF {r:Res D}{d:D}{M:Mem}(h:aq r fun x M'=>x=d/\M'=M):r=.ok d M:=by
 obtain ⟨a,M',e,rfl,rfl⟩:=qA.mp h
 exact e
section
variable {P:Nat->Option Df}(h:HasM0 P){M:Mem}
include h
theorem w8 (n:Nat)(t lo hi:Int):aw P (n+1) 0 [.int t,.int lo,.int hi] M=.ok (.bl (decide (lo<=t)&&decide (t<=hi))) M:=by
 refine aF (aM h.is_between rfl ?_)
 simp [fK,bZ]
 by_cases h1:lo<=t<;>simp [h1]<;>omega
end
theorem nZ {tg:dN}{w:Walk}{ge:GE}{ds:List D}{ρ0:Env}{M:Mem}{kl:List D->Mem->Prop}(f:D->D)(hz:ds.length<=sz)(hw:w M=some ds)(hs:∀d∈ds,∃ρ1,dw tg d ρ0=some ρ1/\ge ρ1 M=.ok (f d) M)(hk:kl (ds.map f) M) :
 aq (d3 (d5 tg (cw ge) ρ0) w [] M) kl:=by
 refine comp_map (fun i acc M'=>M'=M/\acc=(ds.take i).map f) hz (fun i acc M' h=>by rw [h.1];exact hw) ⟨rfl,rfl⟩ ?_ ?_
 ·rintro i d acc M' hd _ ⟨rfl,rfl⟩
  obtain ⟨ρ1,e1,e2⟩:=hs d (List.mem_of_getElem? hd)
  refine ⟨ρ1,e1,?_⟩
  rw [e2]
  refine ⟨rfl,?_⟩
  have hi:i<ds.length:=(List.getElem?_eq_some_iff.mp hd).1
  rw [List.take_succ,hd]
  simp
 ·rintro acc M' _ ⟨rfl,rfl⟩
  simpa using hk
abbrev nD (n:Nat):D:=.int (n:Int)
def bG (l:List Nat):D:=.tup (l.map nD)
inductive bt where
 |turn (at_:Nat) (tab:List Nat) (cost:Nat)
 |join (at_ other:Nat) (tab:List (List Nat)) (cost:Nat)
 |move (at_ other cost:Nat)
 |put (at_ word cost:Nat)
def bt.d:bt->D
 |.turn a t c=>.tup [.str "turn",nD a,bG t,nD c]
 |.join a o t c=>.tup [.str "join",nD a,nD o,.tup (t.map bG),nD c]
 |.move a o c=>.tup [.str "move",nD a,nD o,nD c]
 |.put a w c=>.tup [.str "put",nD a,nD w,nD c]
def bt.cost:bt->Nat
 |.turn _ _ c=>c
 |.join _ _ _ c=>c
 |.move _ _ c=>c
 |.put _ _ c=>c
structure bq where
 words:Nat
 places:Nat
 deeds:List bt
def bq.d (m:bq):D:=.tup [nD m.words,nD m.places,.tup (m.deeds.map bt.d)]
def iB (w:Nat)(t:List Nat):Prop:=t.length=w/\∀x∈t,x<w
def gk (c:Nat):Prop:=1<=c/\c<=3
def cX (w p:Nat):bt->Prop
 |.turn a t c=>a<p/\iB w t/\gk c
 |.join a o t c=>a<p/\o<p/\(t.length=w/\∀x∈t,iB w x)/\gk c
 |.move a o c=>a<p/\o<p/\gk c
 |.put a x c=>a<p/\x<w/\gk c
structure cB (m:bq):Prop where
 w2:2<=m.words
 w4:m.words<=4
 p1:1<=m.places
 p2:m.places<=2
 d1:1<=m.deeds.length
 d6:m.deeds.length<=6
 ok:∀d∈m.deeds,cX m.words m.places d
theorem aJ {n:Nat}(h:n<=100000):n<=sz:=tqh h (by decide)
theorem LP:dJ.lookup (Str.ofString "turn")=some 7:=by decide +kernel
theorem LO:dJ.lookup (Str.ofString "join")=some 8:=by decide +kernel
theorem LN:dJ.lookup (Str.ofString "move")=some 9:=by decide +kernel
theorem LM:dJ.lookup (Str.ofString "put")=some 10:=by decide +kernel
end LD
namespace LD
open PySem
section
variable {Z:Env}{M:Mem}{a b:GE}{s:GA}{k:D->Mem->Prop}{kf:Fl->Mem->Prop}{t u:GT}{A rest:GS}
theorem cp {t rest:GS}{ρ':Env}(e:t Z M=.ok (.next ρ') M)(h:aq (rest ρ' M) kf):aq (ah t rest Z M) kf:=by
 simp only [aN]
 rw [e]
 exact h
theorem aC {x:D}{xs:List D}(ea:a Z M=.ok x M)(es:s Z M=.ok xs M):aa a s Z M=.ok (x::xs) M:=by
 unfold aa
 rw [ea]
 show (s Z M).bind _=_
 rw [es]
 rfl
theorem jT {xs:List D}(es:s Z M=.ok xs M)(hl:xs.length<=100):ba false s Z M=.ok (.lst xs) M:=by
 unfold ba
 rw [es]
 show (if xs.length<=sz then (if false=true then _ else Res.ok (D.lst xs) M) else .bad)=_
 rw [if_pos (aJ (by omega))]
 rfl
theorem lj {i:Nat}{x:D}(e:a Z M=.ok x M):aP (.one i) a Z M=.ok (.next (Z.set i (some x))) M:=by
 unfold aP
 rw [e]
 rfl
theorem aS {j:Nat}{x:D}(h:Z[j]?.getD none=some x):af j Z M=.ok x M:=by
 unfold af
 rw [h]
 rfl
theorem cS {f:Nat}{c:Call}{xs:List D}(e:s Z M=.ok xs M):ax f c s Z M=c f xs M:=by
 unfold ax;rw [e];rfl
theorem km {f i:Nat}{c:Call}{x:D}{r:Res D}(h:Z[i]?.getD none=some x)(e:c f [x] M=r):ax f c (aa (af i) aj) Z M=r:=(cS (aC (aS h) rfl)).trans e
theorem fw {f i j:Nat}{c:Call}{x y:D}{r:Res D}(h:Z[i]?.getD none=some x)(h2:Z[j]?.getD none=some y)(e:c f [x,y] M=r):ax f c (aa (af i) (aa (af j) aj)) Z M=r:=(cS (aC (aS h) (aC (aS h2) rfl))).trans e
theorem fm {i:Nat}(h:aq (a Z M) k)(hk:∀x M',k x M'->aq (rest (Z.set i (some x)) M') kf):aq (ah (aP (.one i) a) rest Z M) kf:=by
 obtain ⟨x,M',e,q⟩:=qA.mp h
 simp only [aN]
 unfold aP
 rw [e]
 exact hk x M' q
theorem ja (ht:t Z M=.ok true M)(h:aq (A Z M) (mz rest kf)):aq (ah (aZ t A av) rest Z M) kf:=by
 simp only [aN,jP]
 rw [ht]
 exact h
theorem di {b:Bool}(ht:t Z M=.ok b M)(h1:b=true->aq (A Z M) (mz rest kf))(h2:b=false->aq (rest Z M) kf):aq (ah (aZ t A av) rest Z M) kf:=by
 cases b with
 |true=>exact ja ht (h1 rfl)
 |false=>exact aI ht (h2 rfl)
theorem fC {b:Bool}(h:t Z M=.ok b M):bT t Z M=.ok (!b) M:=by
 unfold bT
 rw [h]
 rfl
theorem eA {b:Bool}(h:a Z M=.ok (.bl b) M):aG a Z M=.ok b M:=by
 unfold aG
 rw [h]
 rfl
theorem Jo {x y:Bool}(h1:t Z M=.ok x M)(h2:u Z M=.ok y M):eJ t u Z M=.ok (x||y) M:=by
 unfold eJ
 rw [h1]
 cases x with
 |true=>rfl
 |false=>exact h2
theorem ID {b:Bool}(h1:t Z M=.ok b M)(h2:b=true->u Z M=.ok false M):ia t u Z M=.ok false M:=by
 unfold ia
 rw [h1]
 cases b with
 |true=>exact h2 rfl
 |false=>rfl
theorem sj {x y:Bool}(h1:t Z M=.ok x M)(h2:u Z M=.ok y M):ia t u Z M=.ok (x&&y) M:=by
 unfold ia
 rw [h1]
 cases x with
 |true=>exact h2
 |false=>rfl
theorem gU {x y:Bool}(h1:a Z M=.ok (.bl x) M)(h2:x=true->b Z M=.ok (.bl y) M):eT a b Z M=.ok (.bl (x&&y)) M:=by
 unfold eT
 rw [h1]
 cases x with
 |true=>exact h2 rfl
 |false=>rfl
theorem oz {k:Bool}{x:D}(ht:t Z M=.ok k M)(h1:k=true->a Z M=.ok x M)(h2:k=false->b Z M=.ok x M):ic t a b Z M=.ok x M:=by
 unfold ic
 rw [ht]
 cases k with
 |true=>exact h1 rfl
 |false=>exact h2 rfl
theorem xS {j:Nat}{ds:List D}(e:Z[j]?.getD none=some (.tup ds)):bD .len (aa (af j) aj) Z M=.ok (nD ds.length) M:=by
 unfold bD
 rw [aC (aS e) rfl]
 rfl
theorem Jv {i j:Int}(h1:a Z M=.ok (.int i) M)(h2:b Z M=.ok (.int j) M):aG (aW .ne a b) Z M=.ok (!(i==j)) M:=by
 refine eA ?_
 unfold aW
 rw [h1]
 show (b Z M).bind _=_
 rw [h2]
 rfl
theorem Iy {l h i:Int}{c:GE}(h1:a Z M=.ok (.int l) M)(h2:b Z M=.ok (.int i) M)(h3:c Z M=.ok (.int h) M):lS .le .le a b c Z M=.ok (.bl (decide (l<=i)&&decide (i<=h))) M:=by
 unfold lS
 rw [h1]
 show (b Z M).bind _=_
 rw [h2]
 show (if decide (l<=i)=true then _ else _)=_
 cases decide (l<=i) with
 | true =>
   show (c Z M).bind _=_
   rw [h3]
   rfl
 |false=>rfl
end
theorem wA {t:GT}{A rest:GS}{Z:Env}{M:Mem}{k:Fl->Mem->Prop}{R:Mem->Prop}(ht:aq (t Z M) fun b M'=>b=false/\R M')(h:∀M',R M'->aq (rest Z M') k):aq (ah (aZ t A av) rest Z M) k:=by
 simp only [aN,jP]
 obtain ⟨b,M',e,rfl,r⟩:=qA.mp ht
 rw [e]
 exact h M' r
end LD
namespace LD
open PySem
def Th:Nat->Nat->D->Prop
 |_,_,.non=>True
 |_,_,.bl _=>True
 |_,_,.int _=>True
 |_,L,.str x=>x.cps.size<=L/\x.cps.all (· < 0x110000)=true
 |n+1,L,.tup ds=>ds.length<=L/\∀d∈ds,Th n L d
 |n+1,L,.lst ds=>ds.length<=L/\∀d∈ds,Th n L d
 |_,_,_=>False
theorem Th.mono:∀{n n' L L':Nat}{d:D},Th n L d->n<=n'->L<=L'->Th n' L' d
 |n,n',L,L',.non,_,_,_=>by cases n'<;>trivial
 |n,n',L,L',.bl _,_,_,_=>by cases n'<;>trivial
 |n,n',L,L',.int _,_,_,_=>by cases n'<;>trivial
 | n, n', L, L', .str x, h, _, l => by
   have h:x.cps.size<=L/\x.cps.all (· < 0x110000)=true:=by cases n<;>exact h
   have:x.cps.size<=L'/\x.cps.all (· < 0x110000)=true:=⟨tqh h.1 l,h.2⟩
   cases n'<;>exact this
 |n+1,n'+1,L,L',.tup ds,h,a,l=>⟨tqh h.1 l,fun d hd=>Th.mono (h.2 d hd) (Nat.le_of_succ_le_succ a) l⟩
 |n+1,n'+1,L,L',.lst ds,h,a,l=>⟨tqh h.1 l,fun d hd=>Th.mono (h.2 d hd) (Nat.le_of_succ_le_succ a) l⟩
 |n+1,0,L,L',.tup ds,h,a,l=>by omega
 |n+1,0,L,L',.lst ds,h,a,l=>by omega
 |0,n',L,L',.tup ds,h,a,l=>h.elim
 |0,n',L,L',.lst ds,h,a,l=>h.elim
 |n,n',L,L',.frz _,h,_,_=>by cases n<;>exact h.elim
 |n,n',L,L',.cell _,h,_,_=>by cases n<;>exact h.elim
 |n,n',L,L',.fn _,h,_,_=>by cases n<;>exact h.elim
 |n,n',L,L',.exc _ _,h,_,_=>by cases n<;>exact h.elim
theorem Th.pure:∀{n L:Nat}{d:D},Th n L d->aK n d=true
 |n,L,.non,_=>by cases n<;>rfl
 |n,L,.bl _,_=>by cases n<;>rfl
 |n,L,.int _,_=>by cases n<;>rfl
 |n,L,.str x,h=>by cases n<;>exact h.2
 | n + 1, L, .tup ds, h => by
   show ds.all (aK n)=true
   rw [List.all_eq_true]
   exact fun d hd=>(h.2 d hd).pure
 | n + 1, L, .lst ds, h => by
   show ds.all (aK n)=true
   rw [List.all_eq_true]
   exact fun d hd=>(h.2 d hd).pure
 |0,L,.tup ds,h=>h.elim
 |0,L,.lst ds,h=>h.elim
 |n,L,.frz _,h=>by cases n<;>exact h.elim
 |n,L,.cell _,h=>by cases n<;>exact h.elim
 |n,L,.fn _,h=>by cases n<;>exact h.elim
 |n,L,.exc _ _,h=>by cases n<;>exact h.elim
theorem Th.view {n L:Nat}{d:D}{M:Mem}(h:Th n L d):view M d=d:=by
 cases d<;>first|rfl|(cases n<;>exact h.elim)
theorem Th.tup {n L:Nat}{ds:List D}(h:Th n L (.tup ds)):ds.length<=L/\∀d∈ds,Th n L d:=by
 cases n with
 |zero=>exact h.elim
 |succ n=>exact ⟨h.1,fun d hd=>(h.2 d hd).mono (Nat.le_succ n) (tqg L)⟩
def bg (lo hi:Int):D->Bool
 |.int i=>decide (lo<=i)&&decide (i<=hi)
 |_=>false
def gr (w:Nat):D->Bool
 |.tup ds=>ds.length==w
 |_=>false
def hZ (w:Nat):D->Bool
 |.tup ds=>ds.length==w&&ds.all (bg 0 ((w:Int)-1))
 |_=>false
def jJ (w:Nat):D->Bool
 |.tup ds=>ds.length==w&&ds.all (hZ w)
 |_=>false
def lr (w p:Nat):List D->Bool
 |[a,t,c]=>bg 0 ((p:Int)-1) a&&(hZ w t&&bg 1 3 c)
 |_=>false
def jH (w p:Nat):List D->Bool
 |[a,o,t,c]=>bg 0 ((p:Int)-1) a&&(bg 0 ((p:Int)-1) o&&(jJ w t&&bg 1 3 c))
 |_=>false
def kd (w p:Nat):List D->Bool
 |[a,o,c]=>bg 0 ((p:Int)-1) a&&(bg 0 ((p:Int)-1) o&&bg 1 3 c)
 |_=>false
def nH (w p:Nat):List D->Bool
 |[a,x,c]=>bg 0 ((p:Int)-1) a&&(bg 0 ((w:Int)-1) x&&bg 1 3 c)
 |_=>false
def cV (w p:Nat)(s:Str)(ds:List D):Bool:=
 if s="turn" then lr w p ds else if s="join" then jH w p ds else if s="move" then kd w p ds else if s="put" then nH w p ds else false
def fv (w p:Nat):D->Bool
 |.tup (.str s::ds)=>cV w p s ds
 |_=>false
def gv:D->Bool
 |.tup ds=>decide (1<=ds.length)&&decide (ds.length<=6)
 |_=>false
def qI:D->List D
 |.tup ds=>ds
 |_=>[]
def eL:D->Nat
 |.int i=>i.toNat
 |_=>0
theorem oO {lo hi:Int}{d:D}(h:bg lo hi d=true)(h0:0<=lo):d=nD (eL d)/\lo<=(eL d:Int)/\(eL d:Int)<=hi:=by
 cases d with
 | int i =>
   simp [bg] at h
   refine ⟨?_,?_⟩
   ·show D.int i=D.int ((i.toNat:Nat):Int)
    rw [Int.toNat_of_nonneg (by omega)]
   ·show lo<=((i.toNat:Nat):Int)/\((i.toNat:Nat):Int)<=hi
    rw [Int.toNat_of_nonneg (by omega)]
    exact h
 |_=>cases h
def fu:D->Bool
 |.tup [a,b,c]=>bg 2 4 a&&(bg 1 2 b&&(gv c&&(qI c).all (fv (eL a) (eL b))))
 |_=>false
theorem vg {d:D}(h:gr 3 d=false):fu d=false:=by
 match d,h with
 |.tup [a,b,c],h=>cases h
 |.tup [],_=>rfl
 |.tup [_],_=>rfl
 |.tup [_,_],_=>rfl
 |.tup (_::_::_::_::r),_=>rfl
 |.non,_=>rfl
 |.bl _,_=>rfl
 |.int _,_=>rfl
 |.str _,_=>rfl
 |.lst _,_=>rfl
 |.frz _,_=>rfl
 |.cell _,_=>rfl
 |.fn _,_=>rfl
 |.exc _ _,_=>rfl
structure yx (P:Nat->Option Df):Prop where
 is_between:P 0=some ⟨3,3,fK⟩
 is_word:P 1=some ⟨2,2,jX⟩
 is_place:P 2=some ⟨2,2,jj⟩
 is_cost:P 3=some ⟨1,1,jY⟩
 is_tuple_of:P 4=some ⟨2,2,gi⟩
 is_table:P 5=some ⟨2,2,ji⟩
 is_double_table:P 6=some ⟨2,2,eB⟩
 is_turn:P 7=some ⟨3,6,gO⟩
 is_join:P 8=some ⟨3,7,gQ⟩
 is_move:P 9=some ⟨3,6,gP⟩
 is_put:P 10=some ⟨3,6,iJ⟩
 is_deed:P 11=some ⟨3,5,gR⟩
 is_machine:P 12=some ⟨1,4,fJ⟩
theorem oZ (f:D->Bool):∀ds:List D,boolsOf (ds.map fun d=>.bl (f d))=some (ds.map f)
 |[]=>rfl
 |d::r=>by simp [boolsOf,oZ f r]
theorem all_eq {w:GW}{ge:GE}{Z:Env}{M:Mem}{ds:List D}(f:D->Bool)(hw:aq (w Z M) fun wk M'=>M'=M/\wk M=some ds)(hz:ds.length<=sz)(he:∀d∈ds,ge (some d::Z) M=.ok (.bl (f d)) M) :
 bD .all (aa (cv false 1 (.one 0) w (cw ge)) aj) Z M=.ok (.bl (ds.all f)) M:=by
 refine aF ?_
 simp only [fg,bc,jW,bB]
 refine bb hw fun wk M' ⟨e1,e2⟩=>?_
 subst e1
 refine nZ (fun d=>.bl (f d)) hz e2 (fun d hd=>⟨some d::Z,rfl,he d hd⟩) ?_
 simp only [bW,List.length_map,E5]
 refine ⟨hz,_,oZ f ds,?_,trivial⟩
 congr 1
 rw [List.all_map];rfl
theorem vn {k L:Nat}{x:D}(hx:Th k L x){t:Ty}(h:((¬ ∃s,x=.str s)/\t=.str\/(¬ ∃s,x=.tup s)/\t=.tuple)):bZ t x=some false:=by
 rcases h with ⟨h,rfl⟩|⟨h,rfl⟩<;>cases x<;>first|rfl|exact absurd ⟨_,rfl⟩ h|(cases k<;>exact hx.elim)
section
variable {P:Nat->Option Df}(h:yx P){M:Mem}{k L:Nat}{d:D}
include h
theorem ko (n:Nat)(hd:Th k L d)(lo hi:Int):aw P (n+1) 0 [d,.int lo,.int hi] M=.ok (.bl (bg lo hi d)) M:=by
 cases d with
 | int t =>
   refine aF (aM h.is_between rfl ?_)
   simp [fK,bZ,bg]
   by_cases h1:lo<=t<;>simp [h1]<;>omega
 |fn j=>cases k<;>exact hd.elim
 |exc y p=>cases k<;>exact hd.elim
 |_=>exact aF (aM h.is_between rfl (dj rfl))
theorem pD (n:Nat){w:Nat}(hd:Th k L d):aw P (n+2) 1 [nD w,d] M=.ok (.bl (bg 0 ((w:Int)-1) d)) M:=by
 refine aF (aM h.is_word rfl ?_)
 simp [jX,ko h _ hd]
theorem iK (n:Nat){w:Nat}(hd:Th k L d):aw P (n+2) 2 [nD w,d] M=.ok (.bl (bg 0 ((w:Int)-1) d)) M:=by
 refine aF (aM h.is_place rfl ?_)
 simp [jj,ko h _ hd]
theorem mI (n:Nat)(hd:Th k L d):aw P (n+2) 3 [d] M=.ok (.bl (bg 1 3 d)) M:=by
 refine aF (aM h.is_cost rfl ?_)
 simp [jY,ko h _ hd]
theorem lY (n:Nat){w:Nat}(hd:Th k L d):aw P (n+1) 4 [nD w,d] M=.ok (.bl (gr w d)) M:=by
 refine aF (aM h.is_tuple_of rfl ?_)
 cases d with
 |fn j=>cases k<;>exact hd.elim
 |exc y p=>cases k<;>exact hd.elim
 | tup ds =>
   simp [gi,bZ,gr]
   by_cases e:ds.length=w
   ·simp [e]
   ·have:¬ ((ds.length:Int)=(w:Int)):=by omega
    simp [e,this]
 |_=>exact dj rfl
theorem v7 (n:Nat){w:Nat}(hd:Th k L d)(hL:L<=100):aw P (n+3) 5 [nD w,d] M=.ok (.bl (hZ w d)) M:=by
 refine aF (aM h.is_table rfl ?_)
 have e:=lY h (n+1) (w:=w) (M:=M) hd
 simp only [ji,aN,cx,C4,ff,bc,bB,bf,List.map_cons,List.map_nil,List.cons_append,List.nil_append,List.getElem?_cons_zero,List.getElem?_cons_succ,Option.getD_some,Option.some.injEq,exists_eq_left']
 rw [e]
 refine ⟨_,rfl,?_⟩
 cases d with
 | tup ds =>
   have ht:=hd.tup
   by_cases el:ds.length=w
   ·have:gr w (.tup ds)=true:=by simp [gr,el]
    rw [this,if_pos rfl,all_eq (ds:=ds) (bg 0 ((w:Int)-1)) (by simp;exact ⟨rfl,rfl⟩) (aJ (by omega)) (fun d hd=>aF (by simp [pD h n (ht.2 d hd)]))]
    exact ⟨by simp [hZ,el],rfl⟩
   ·have:gr w (.tup ds)=false:=by simp [gr,el]
    rw [this,if_neg (by simp)]
    exact ⟨by simp [hZ,el],rfl⟩
 |_=>exact ⟨rfl,rfl⟩
theorem AY (n:Nat){w:Nat}(hd:Th k L d)(hL:L<=100):aw P (n+4) 6 [nD w,d] M=.ok (.bl (jJ w d)) M:=by
 refine aF (aM h.is_double_table rfl ?_)
 have e:=lY h (n+2) (w:=w) (M:=M) hd
 simp only [eB,aN,cx,C4,ff,bc,bB,bf,List.map_cons,List.map_nil,List.cons_append,List.nil_append,List.getElem?_cons_zero,List.getElem?_cons_succ,Option.getD_some,Option.some.injEq,exists_eq_left']
 rw [e]
 refine ⟨_,rfl,?_⟩
 cases d with
 | tup ds =>
   have ht:=hd.tup
   by_cases el:ds.length=w
   ·have:gr w (.tup ds)=true:=by simp [gr,el]
    rw [this,if_pos rfl,all_eq (ds:=ds) (hZ w) (by simp;exact ⟨rfl,rfl⟩) (aJ (by omega)) (fun d hd=>aF (by simp [v7 h n (ht.2 d hd) hL]))]
    exact ⟨by simp [jJ,el],rfl⟩
   ·have:gr w (.tup ds)=false:=by simp [gr,el]
    rw [this,if_neg (by simp)]
    exact ⟨by simp [jJ,el],rfl⟩
 |_=>exact ⟨rfl,rfl⟩
omit h in
theorem qP {j c:Nat}{ds:List D}{Z:Env}(e:Z[j]?.getD none=some (.tup ds))(hc:ds.length≠c):(aG (aW .ne (bD .len (aa (af j) aj)) (gC (.int (c:Int)))):GT) Z M=.ok true M:=by
 rw [Jv (xS e) rfl,beq_eq_false_iff_ne.mpr (by omega)]
 rfl
theorem AS (n:Nat){w p:Nat}{ds:List D}(hd:∀d∈ds,Th k L d)(hL:L<=100)(hl:ds.length<=100):aw P (n+4) 7 [nD w,nD p,.tup ds] M=.ok (.bl (lr w p ds)) M:=by
 refine aF (aM h.is_turn rfl ?_)
 match ds,hd,hl with
 | [a, t, c], hd, _ =>
   show aq (gO (aw P (n+3)) [some (nD w),some (nD p),some (.tup [a,t,c]),none,none,none] M) _
   unfold gO
   refine aI rfl (cp rfl ?_)
   show aq _ _
   exact cR (gU (fw rfl rfl (iK h (n+1) (hd a (.head _)))) fun _=>gU (fw rfl rfl (v7 h n (hd t (.tail _ (.head _))) hL)) fun _=>km rfl (mI h (n+1) (hd c (.tail _ (.tail _ (.head _)))))) ⟨rfl,rfl⟩
 |[],_,_=>exact dj rfl
 |[_],_,_=>exact dj rfl
 |[_,_],_,_=>exact dj rfl
 | a :: b :: c :: d :: r, _, _ =>
   show aq (gO (aw P (n+3)) [some (nD w),some (nD p),some (.tup (a::b::c::d::r)),none,none,none] M) _
   exact bI (qP (c:=3) (ds:=a::b::c::d::r) rfl (fun z=>by simp at z)) rfl ⟨rfl,rfl⟩
theorem AX (n:Nat){w p:Nat}{ds:List D}(hd:∀d∈ds,Th k L d)(hL:L<=100)(hl:ds.length<=100):aw P (n+5) 8 [nD w,nD p,.tup ds] M=.ok (.bl (jH w p ds)) M:=by
 refine aF (aM h.is_join rfl ?_)
 match ds,hd,hl with
 | [a, o, t, c], hd, _ =>
   show aq (gQ (aw P (n+4)) [some (nD w),some (nD p),some (.tup [a,o,t,c]),none,none,none,none] M) _
   unfold gQ
   refine aI rfl (cp rfl ?_)
   refine di (Jo (fC (eA (fw rfl rfl (iK h (n+2) (hd a (.head _)))))) (fC (eA (fw rfl rfl (iK h (n+2) (hd o (.tail _ (.head _)))))))) (fun e=>?_) fun e=>?_
   ·refine cR (v:=.bl false) rfl ⟨?_,rfl⟩
    show D.bl false=.bl (_&&(_&&_))
    cases q:bg 0 ((p:Int)-1) a with
    |false=>rfl
    | true =>
      rw [q] at e
      cases q2:bg 0 ((p:Int)-1) o with
      |false=>rfl
      |true=>rw [q2] at e;cases e
   ·refine cR (gU (fw rfl rfl (AY h n (hd t (.tail _ (.tail _ (.head _)))) hL)) fun _=>km rfl (mI h (n+2) (hd c (.tail _ (.tail _ (.tail _ (.head _))))))) ⟨?_,rfl⟩
    show _=D.bl (bg 0 ((p:Int)-1) a&&(bg 0 ((p:Int)-1) o&&_))
    cases q:bg 0 ((p:Int)-1) a with
    |false=>rw [q] at e;cases e
    | true =>
      rw [q] at e
      cases q2:bg 0 ((p:Int)-1) o with
      |false=>rw [q2] at e;cases e
      |true=>rfl
 |[],_,_=>exact dj rfl
 |[_],_,_=>exact dj rfl
 |[_,_],_,_=>exact dj rfl
 |[_,_,_],_,_=>exact dj rfl
 | a :: b :: c :: d :: e :: r, _, _ =>
   show aq (gQ (aw P (n+4)) [some (nD w),some (nD p),some (.tup (a::b::c::d::e::r)),none,none,none,none] M) _
   exact bI (qP (c:=4) (ds:=a::b::c::d::e::r) rfl (fun z=>by simp at z)) rfl ⟨rfl,rfl⟩
theorem AW (n:Nat){w p:Nat}{ds:List D}(hd:∀d∈ds,Th k L d)(hL:L<=100)(hl:ds.length<=100):aw P (n+3) 9 [nD w,nD p,.tup ds] M=.ok (.bl (kd w p ds)) M:=by
 refine aF (aM h.is_move rfl ?_)
 match ds,hd,hl with
 | [a, t, c], hd, _ =>
   show aq (gP (aw P (n+2)) [some (nD w),some (nD p),some (.tup [a,t,c]),none,none,none] M) _
   unfold gP
   refine aI rfl (cp rfl ?_)
   show aq _ _
   exact cR (gU (fw rfl rfl (iK h n (hd a (.head _)))) fun _=>gU (fw rfl rfl (iK h n (hd t (.tail _ (.head _))))) fun _=>km rfl (mI h n (hd c (.tail _ (.tail _ (.head _)))))) ⟨rfl,rfl⟩
 |[],_,_=>exact dj rfl
 |[_],_,_=>exact dj rfl
 |[_,_],_,_=>exact dj rfl
 | a :: b :: c :: d :: r, _, _ =>
   show aq (gP (aw P (n+2)) [some (nD w),some (nD p),some (.tup (a::b::c::d::r)),none,none,none] M) _
   exact bI (qP (c:=3) (ds:=a::b::c::d::r) rfl (fun z=>by simp at z)) rfl ⟨rfl,rfl⟩
theorem Dq (n:Nat){w p:Nat}{ds:List D}(hd:∀d∈ds,Th k L d)(hL:L<=100)(hl:ds.length<=100):aw P (n+3) 10 [nD w,nD p,.tup ds] M=.ok (.bl (nH w p ds)) M:=by
 refine aF (aM h.is_put rfl ?_)
 match ds,hd,hl with
 | [a, t, c], hd, _ =>
   show aq (iJ (aw P (n+2)) [some (nD w),some (nD p),some (.tup [a,t,c]),none,none,none] M) _
   unfold iJ
   refine aI rfl (cp rfl ?_)
   show aq _ _
   exact cR (gU (fw rfl rfl (iK h n (hd a (.head _)))) fun _=>gU (fw rfl rfl (pD h n (hd t (.tail _ (.head _))))) fun _=>km rfl (mI h n (hd c (.tail _ (.tail _ (.head _)))))) ⟨rfl,rfl⟩
 |[],_,_=>exact dj rfl
 |[_],_,_=>exact dj rfl
 |[_,_],_,_=>exact dj rfl
 | a :: b :: c :: d :: r, _, _ =>
   show aq (iJ (aw P (n+2)) [some (nD w),some (nD p),some (.tup (a::b::c::d::r)),none,none,none] M) _
   exact bI (qP (c:=3) (ds:=a::b::c::d::r) rfl (fun z=>by simp at z)) rfl ⟨rfl,rfl⟩
omit h in
theorem nN {w p:Nat}{ds:List D}:cV w p "turn" ds=lr w p ds:=by unfold cV;rw [if_pos rfl]
omit h in
theorem nM {w p:Nat}{ds:List D}:cV w p "join" ds=jH w p ds:=by unfold cV;rw [if_neg (by decide +kernel),if_pos rfl]
omit h in
theorem nK {w p:Nat}{ds:List D}:cV w p "move" ds=kd w p ds:=by unfold cV;rw [if_neg (by decide +kernel),if_neg (by decide +kernel),if_pos rfl]
omit h in
theorem nJ {w p:Nat}{ds:List D}:cV w p "put" ds=nH w p ds:=by unfold cV;rw [if_neg (by decide +kernel),if_neg (by decide +kernel),if_neg (by decide +kernel),if_pos rfl]
omit h in
theorem uT {w p:Nat}{ds:List D}{s:Str}(e1:¬ s="turn")(e2:¬ s="join")(e3:¬ s="move")(e4:¬ s="put"):cV w p s ds=false:=by unfold cV;rw [if_neg e1,if_neg e2,if_neg e3,if_neg e4]
omit h in
theorem w9 {s:Str}(e1:¬ s="turn")(e2:¬ s="join")(e3:¬ s="move")(e4:¬ s="put"):dJ.lookup s=none:=by
 unfold dJ
 simp only [List.lookup,beq_eq_false_iff_ne.mpr e1,beq_eq_false_iff_ne.mpr e2,beq_eq_false_iff_ne.mpr e3,beq_eq_false_iff_ne.mpr e4]
theorem oH (n:Nat){w p f:Nat}{s:Str}{ds:List D}{v:Bool}(lk:dJ.lookup s=some f)(q:aw P (n+5) f [nD w,nD p,.tup ds] M=.ok (.bl v) M):aw P (n+6) 11 [nD w,nD p,.tup (.str s::ds)] M=.ok (.bl v) M:=by
 refine aF (aM h.is_deed rfl ?_)
 simp [-List.lookup_isSome_iff,gR,bZ,bR,lk,eK,a8,cy,cut,q]
theorem Cc (n:Nat){w p:Nat}{s:Str}{ds:List D}(lk:dJ.lookup s=none):aw P (n+6) 11 [nD w,nD p,.tup (.str s::ds)] M=.ok (.bl false) M:=by
 refine aF (aM h.is_deed rfl ?_)
 have e:(dJ.lookup s).isSome=false:=by rw [lk];rfl
 simp [-List.lookup_isSome_iff,-List.lookup_eq_none_iff,-Option.isSome_eq_false_iff,gR,bZ,bR,e]
 exact lk
theorem A0 (n:Nat){w p:Nat}(hd:Th k L d)(hL:L<=100):aw P (n+6) 11 [nD w,nD p,d] M=.ok (.bl (fv w p d)) M:=by
 cases d with
 |fn j=>cases k<;>exact hd.elim
 |exc y p=>cases k<;>exact hd.elim
 | tup xs =>
   have ht:=hd.tup
   cases xs with
   |nil=>exact aF (aM h.is_deed rfl (dj rfl))
   | cons x ds =>
     have hx:=ht.2 x List.mem_cons_self
     have hds:∀d∈ds,Th k L d:=fun d hd=>ht.2 d (List.mem_cons_of_mem _ hd)
     have hl:ds.length<=100:=by have:=ht.1;simp at this;omega
     by_cases hs:∃s,x=.str s
     ·obtain ⟨s,rfl⟩:=hs
      show _=Res.ok (D.bl (cV w p s ds)) M
      by_cases e1:s="turn"
      ·subst e1
       rw [nN];exact oH h n LP (AS h (n+1) hds hL hl)
      by_cases e2:s="join"
      ·subst e2
       rw [nM];exact oH h n LO (AX h n hds hL hl)
      by_cases e3:s="move"
      ·subst e3
       rw [nK];exact oH h n LN (AW h (n+2) hds hL hl)
      by_cases e4:s="put"
      ·subst e4
       rw [nJ];exact oH h n LM (Dq h (n+2) hds hL hl)
      rw [uT e1 e2 e3 e4]
      exact Cc h n (w9 e1 e2 e3 e4)
     ·have e1:fv w p (.tup (x::ds))=false:=by cases x<;>first|rfl|exact absurd ⟨_,rfl⟩ hs
      have e2:=vn hx (t:=.str) (.inl ⟨hs,rfl⟩)
      rw [e1]
      refine aF (aM h.is_deed rfl ?_)
      have e3:bZ .tuple (.tup (x::ds))=some true:=rfl
      simp [gR,bR,e2,e3]
 |_=>exact aF (aM h.is_deed rfl (dj rfl))
theorem BI (n:Nat)(hd:Th k L d)(hn:gr 3 d=false):aw P (n+7) 12 [d] M=.ok (.bl false) M:=by
 refine aF (aM h.is_machine rfl ?_)
 have e:aw P (n+6) 4 [.int 3,d] M=.ok (.bl (gr 3 d)) M:=lY h (n+5) (w:=3) (M:=M) hd
 rw [hn] at e
 simp [fJ,e]
theorem Jx (n:Nat){a b c:D}(hd:Th k L (.tup [a,b,c]))(hL:L<=100):aw P (n+7) 12 [.tup [a,b,c]] M=.ok (.bl (fu (.tup [a,b,c]))) M:=by
 refine aF (aM h.is_machine rfl ?_)
 have ht:=hd.tup.2
 simp only [List.mem_cons,List.not_mem_nil,or_false,forall_eq_or_imp,forall_eq] at ht
 have e:aw P (n+6) 4 [.int 3,.tup [a,b,c]] M=.ok (.bl true) M:=lY h (n+5) (w:=3) (M:=M) hd
 have b1:=ko h (n+5) (M:=M) ht.1 2 4
 have b2:=ko h (n+5) (M:=M) ht.2.1 1 2
 simp only [fJ,aN,ql,cx,eW,uq,jP,tV,iP,AN,FD,cZ,ff,bc,bB,bf,vp,List.map_cons,List.map_nil,List.cons_append,List.nil_append,List.getElem?_cons_zero,List.getElem?_cons_succ,Option.getD_some,Option.some.injEq,exists_eq_left']
 rw [e]
 refine ⟨_,rfl,?_⟩
 rw [if_neg (by simp)]
 refine ⟨_,_,rfl,rfl,_,rfl,?_⟩
 rw [b1]
 refine ⟨_,rfl,?_⟩
 by_cases c1:bg 2 4 a=false
 ·rw [c1,if_pos (by decide),if_pos trivial]
  exact ⟨by simp [fu,c1],rfl⟩
 have c1:bg 2 4 a=true:=by simpa using c1
 rw [c1,if_neg (by simp)]
 refine ⟨_,rfl,?_⟩
 rw [b2]
 refine ⟨_,rfl,?_⟩
 by_cases c2:bg 1 2 b=false
 ·rw [c2,if_pos (by decide)]
  exact ⟨by simp [fu,c2],rfl⟩
 have c2:bg 1 2 b=true:=by simpa using c2
 rw [c2,if_neg (by simp)]
 refine ⟨_,rfl,?_⟩
 obtain ⟨ea,_,_⟩:=oO c1 (by decide)
 obtain ⟨eb,_,_⟩:=oO c2 (by decide)
 cases c with
 |fn j=>exact absurd ht.2.2 (by cases k<;>exact id)
 |exc y p=>exact absurd ht.2.2 (by cases k<;>exact id)
 | tup ds =>
   have hc:=ht.2.2.tup
   refine ⟨true,rfl,true,rfl,?_⟩
   rw [if_neg (by simp)]
   simp only [JJ,cZ]
   refine fg.mpr (bc.mpr (bf.mpr ⟨_,rfl,bB.mpr (oy.mpr ⟨_,rfl,?_⟩)⟩))
   by_cases l1:(1:Int)<=(ds.length:Int)
   ·rw [decide_eq_true l1,if_pos (by decide)]
    refine ⟨_,rfl,_,rfl,?_⟩
    by_cases l6:(ds.length:Int)<=6
    ·rw [decide_eq_true l6,if_neg (by simp)]
     have lb:gv (.tup ds)=true:=by simp [gv];omega
     rw [all_eq (ds:=ds) (fv (eL a) (eL b)) (by simp;exact ⟨rfl,rfl⟩) (aJ (by omega)) (fun d hd=>aF (by
      have q:=A0 h n (w:=eL a) (p:=eL b) (M:=M) (hc.2 d hd) hL
      rw [<- ea,<- eb] at q
      simp [q]))]
     refine ⟨?_,rfl⟩
     show D.bl (ds.all (fv (eL a) (eL b)))=D.bl (bg 2 4 a&&(bg 1 2 b&&(gv (.tup ds)&&ds.all (fv (eL a) (eL b)))))
     rw [c1,c2,lb];simp
    ·rw [decide_eq_false l6,if_pos (by decide)]
     refine ⟨?_,rfl⟩
     have lb:gv (.tup ds)=false:=by simp [gv];omega
     simp [fu,lb]
   ·rw [decide_eq_false l1,if_neg (by simp)]
    refine ⟨_,rfl,?_⟩
    rw [if_pos (by decide)]
    refine ⟨?_,rfl⟩
    have lb:gv (.tup ds)=false:=by simp [gv];omega
    simp [fu,lb]
 | _ =>
   refine ⟨false,rfl,false,rfl,?_⟩
   rw [if_pos (by decide)]
   exact ⟨by simp [fu,gv],rfl⟩
theorem pE (n:Nat)(hd:Th k L d)(hL:L<=100):aw P (n+7) 12 [d] M=.ok (.bl (fu d)) M:=by
 by_cases hn:gr 3 d=false
 ·rw [BI h n hd hn,vg hn]
 ·match d,hd,hn with
  |.tup [a,b,c],hd,_=>exact Jx h n hd hL
  |.tup [],_,hn=>exact absurd rfl hn
  |.tup [_],_,hn=>exact absurd rfl hn
  |.tup [_,_],_,hn=>exact absurd rfl hn
  |.tup (_::_::_::_::r),_,hn=>exact absurd (by simp [gr]) hn
  |.non,_,hn=>exact absurd rfl hn
  |.bl _,_,hn=>exact absurd rfl hn
  |.int _,_,hn=>exact absurd rfl hn
  |.str _,_,hn=>exact absurd rfl hn
  |.lst _,_,hn=>exact absurd rfl hn
  |.frz _,_,hn=>exact absurd rfl hn
  |.cell _,_,hn=>exact absurd rfl hn
  |.fn _,_,hn=>exact absurd rfl hn
  |.exc _ _,_,hn=>exact absurd rfl hn
omit h in
theorem d8 {lo hi:Int}{n:Nat}(h1:lo<=(n:Int))(h2:(n:Int)<=hi):bg lo hi (nD n)=true:=by simp [bg];omega
omit h in
theorem uu {w:Nat}{t:List Nat}(ht:iB w t):hZ w (bG t)=true:=by
 have e:(t.map nD).all (bg 0 ((w:Int)-1))=true:=by
  rw [List.all_eq_true]
  intro x hx
  obtain ⟨i,hi,rfl⟩:=List.mem_map.mp hx
  have:=ht.2 i hi
  exact d8 (by omega) (by omega)
 show ((t.map nD).length==w&&(t.map nD).all (bg 0 ((w:Int)-1)))=true
 rw [e,List.length_map,ht.1];simp
omit h in
theorem Ab {w p:Nat}{d:bt}(hd:cX w p d):fv w p d.d=true:=by
 cases d with
 | turn a t c =>
   obtain ⟨h1,h2,h3⟩:=hd
   unfold gk at h3
   show cV w p "turn" _=true
   rw [nN]
   simp only [lr]
   rw [d8 (by omega) (by omega),uu h2,d8 (by omega) (by omega)];rfl
 | join a o t c =>
   obtain ⟨h1,h2,h3,h4⟩:=hd
   unfold gk at h4
   show cV w p "join" _=true
   rw [nM]
   simp only [jH]
   have e:jJ w (.tup (t.map bG))=true:=by
    have e:(t.map bG).all (hZ w)=true:=by
     rw [List.all_eq_true]
     intro x hx
     obtain ⟨i,hi,rfl⟩:=List.mem_map.mp hx
     exact uu (h3.2 i hi)
    show ((t.map bG).length==w&&(t.map bG).all (hZ w))=true
    rw [e,List.length_map,h3.1];simp
   rw [d8 (by omega) (by omega),d8 (by omega) (by omega),e,d8 (by omega) (by omega)];rfl
 | move a o c =>
   obtain ⟨h1,h2,h3⟩:=hd
   unfold gk at h3
   show cV w p "move" _=true
   rw [nK]
   simp only [kd]
   rw [d8 (by omega) (by omega),d8 (by omega) (by omega),d8 (by omega) (by omega)];rfl
 | put a o c =>
   obtain ⟨h1,h2,h3⟩:=hd
   unfold gk at h3
   show cV w p "put" _=true
   rw [nJ]
   simp only [nH]
   rw [d8 (by omega) (by omega),d8 (by omega) (by omega),d8 (by omega) (by omega)];rfl
omit h in
theorem lC {m:bq}(hm:cB m):fu m.d=true:=by
 have w2:=hm.w2
 have w4:=hm.w4
 have p1:=hm.p1
 have p2:=hm.p2
 have l1:=hm.d1
 have l6:=hm.d6
 have e:(m.deeds.map bt.d).all (fv m.words m.places)=true:=by
  rw [List.all_eq_true]
  intro x hx
  obtain ⟨i,hi,rfl⟩:=List.mem_map.mp hx
  exact Ab (hm.ok i hi)
 have e2:gv (.tup (m.deeds.map bt.d))=true:=by simp [gv];omega
 show (bg 2 4 (nD m.words)&&(bg 1 2 (nD m.places)&&(gv (.tup (m.deeds.map bt.d))&&(m.deeds.map bt.d).all (fv m.words m.places))))=true
 rw [d8 (by omega) (by omega),d8 (by omega) (by omega),e,e2];rfl
end
end LD
namespace LD
open PySem
def ur:Nat->Nat->D->Bool
 |_,_,.non=>true
 |_,_,.bl _=>true
 |_,_,.int _=>true
 |_,L,.str x=>decide (x.cps.size<=L)&&x.cps.all (· < 0x110000)
 |n+1,L,.tup ds=>decide (ds.length<=L)&&ds.all (ur n L)
 |n+1,L,.lst ds=>decide (ds.length<=L)&&ds.all (ur n L)
 |_,_,_=>false
theorem qg:∀{n L:Nat}{d:D},ur n L d=true->Th n L d
 |n,L,.non,_=>by cases n<;>trivial
 |n,L,.bl _,_=>by cases n<;>trivial
 |n,L,.int _,_=>by cases n<;>trivial
 | n, L, .str x, h => by
   have q:(decide (x.cps.size<=L)&&x.cps.all (· < 0x110000))=true:=by cases n<;>exact h
   simp only [Bool.and_eq_true,decide_eq_true_eq] at q
   have q:x.cps.size<=L/\x.cps.all (· < 0x110000)=true:=q
   cases n<;>exact q
 | n + 1, L, .tup ds, h => by
   have h:(decide (ds.length<=L)&&ds.all (ur n L))=true:=h
   simp only [Bool.and_eq_true,decide_eq_true_eq] at h
   exact ⟨h.1,fun d hd=>qg (List.all_eq_true.mp h.2 d hd)⟩
 | n + 1, L, .lst ds, h => by
   have h:(decide (ds.length<=L)&&ds.all (ur n L))=true:=h
   simp only [Bool.and_eq_true,decide_eq_true_eq] at h
   exact ⟨h.1,fun d hd=>qg (List.all_eq_true.mp h.2 d hd)⟩
 |0,L,.tup ds,h=>by cases h
 |0,L,.lst ds,h=>by cases h
 |n,L,.frz _,h=>by cases n<;>cases h
 |n,L,.cell _,h=>by cases n<;>cases h
 |n,L,.fn _,h=>by cases n<;>cases h
 |n,L,.exc _ _,h=>by cases n<;>cases h
theorem yM {w:Nat}{t:List Nat}(h:iB w t)(w4:w<=4):Th 2 6 (bG t):=by
 refine ⟨by have:=h.1;simp;omega,fun d hd=>?_⟩
 obtain ⟨i,_,rfl⟩:=List.mem_map.mp hd
 trivial
theorem tW {n:Nat}{z:Str}(h:ur 0 6 (.str z)=true):Th n 6 (.str z):=(qg h).mono (Nat.zero_le n) (tqg 6)
theorem jb {n:Nat}{i:Int}:Th n 6 (.int i):=by cases n<;>trivial
theorem ES {w p:Nat}{d:bt}(h:cX w p d)(w4:w<=4):Th 4 6 d.d:=by
 cases d with
 | turn a t c =>
   refine ⟨by simp,fun x hx=>?_⟩
   simp only [List.mem_cons,List.not_mem_nil,or_false] at hx
   rcases hx with rfl|rfl|rfl|rfl
   ·exact tW (by decide +kernel)
   ·exact jb
   ·exact (yM h.2.1 w4).mono (by decide) (by decide)
   ·exact jb
 | join a o t c =>
   refine ⟨by simp,fun x hx=>?_⟩
   simp only [List.mem_cons,List.not_mem_nil,or_false] at hx
   rcases hx with rfl|rfl|rfl|rfl|rfl
   ·exact tW (by decide +kernel)
   ·exact jb
   ·exact jb
   ·refine ⟨by have:=h.2.2.1.1;simp;omega,fun y hy=>?_⟩
    obtain ⟨z,hz,rfl⟩:=List.mem_map.mp hy
    exact yM (h.2.2.1.2 z hz) w4
   ·exact jb
 | move a o c =>
   refine ⟨by simp,fun x hx=>?_⟩
   simp only [List.mem_cons,List.not_mem_nil,or_false] at hx
   rcases hx with rfl|rfl|rfl|rfl
   ·exact tW (by decide +kernel)
   all_goals exact jb
 | put a o c =>
   refine ⟨by simp,fun x hx=>?_⟩
   simp only [List.mem_cons,List.not_mem_nil,or_false] at hx
   rcases hx with rfl|rfl|rfl|rfl
   ·exact tW (by decide +kernel)
   all_goals exact jb
theorem gn {m:bq}(h:cB m):Th 6 6 m.d:=by
 refine ⟨by simp,fun x hx=>?_⟩
 simp only [List.mem_cons,List.not_mem_nil,or_false] at hx
 rcases hx with rfl|rfl|rfl
 ·exact jb
 ·exact jb
 ·refine ⟨by have:=h.d6;simpa using this,fun y hy=>?_⟩
  obtain ⟨z,hz,rfl⟩:=List.mem_map.mp hy
  exact ES (h.ok z hz) h.w4
theorem HasM0.q {P:Nat->Option Df}(h:HasM0 P):yx P:=⟨h.is_between,h.is_word,h.is_place,h.is_cost,h.is_tuple_of,h.is_table,h.is_double_table,h.is_turn,h.is_join,h.is_move,h.is_put,h.is_deed,h.is_machine⟩
end LD
namespace LD
open PySem
structure Sub (M M':Mem):Prop where
 len:M.length<=M'.length
 at':∀k,k<M.length->M'[k]?=M[k]?
theorem Sub.refl {M:Mem}:Sub M M:=⟨tqg _,fun _ _=>rfl⟩
theorem Sub.app {M X:Mem}:Sub M (M++X):=⟨by simp,fun k hk=>List.getElem?_append_left hk⟩
theorem Sub.get {k:Nat}{M M':Mem}{ds:List D}(h:Sub M M')(e:M[k]?=some ds):M'[k]?=some ds:=by rw [h.at' k (List.getElem?_eq_some_iff.mp e).1];exact e
theorem ym {tg:dN}{w:Walk}{ge:GE}{ds:List D}{ρ0:Env}{M:Mem}{acc0:List D}{kl:List D->Mem->Prop}(f:D->D)(hz:acc0.length+ds.length<=sz)(hw:w M=some ds)(hs:∀d∈ds,∃ρ1,dw tg d ρ0=some ρ1/\ge ρ1 M=.ok (f d) M)(hk:kl (acc0++ds.map f) M) :
 aq (d3 (d5 tg (cw ge) ρ0) w acc0 M) kl:=by
 refine iE (ds:=ds) (fun i acc M'=>M'=M/\acc=acc0++(ds.take i).map f) (fun i acc M' h=>by rw [h.1];exact hw) ⟨rfl,by simp⟩ ?_ ?_
 ·rintro i d acc M' hd ⟨rfl,rfl⟩
  obtain ⟨ρ1,e1,e2⟩:=hs d (List.mem_of_getElem? hd)
  have hi:i<ds.length:=(List.getElem?_eq_some_iff.mp hd).1
  simp only [d5,bL,kQ,e1,C8]
  refine ⟨ρ1,rfl,?_⟩
  rw [e2]
  refine ⟨by simp;omega,rfl,?_⟩
  rw [List.take_succ,hd]
  simp
 ·rintro acc M' ⟨rfl,rfl⟩
  simpa using hk
theorem rW {α β:Type}(f:α->List β)(n:Nat):∀(ds:List α),(∀d∈ds,(f d).length<=n)->(ds.flatMap f).length<=ds.length*n
 |[],_=>by simp
 | d :: r, h => by
   have h1:=h d List.mem_cons_self
   have h2:=rW f n r fun d hd=>h d (List.mem_cons_of_mem _ hd)
   simp only [List.flatMap_cons,List.length_append,List.length_cons,Nat.succ_mul]
   omega
theorem yn {t u:dN}{w:Walk}{gw2:GW}{ge:GE}{ds:List D}{ρ0:Env}{M:Mem}{kl:List D->Mem->Prop}(its:D->List D)(f:D->D->D)(n:Nat)(hn:∀d∈ds,(its d).length<=n)(hz:ds.length*n<=sz)(hw:w M=some ds)
 (hs:∀d∈ds,∃ρ1,dw t d ρ0=some ρ1/\∃w2,gw2 ρ1 M=.ok w2 M/\w2 M=some (its d)/\∀e∈its d,∃ρ2,dw u e ρ1=some ρ2/\ge ρ2 M=.ok (f d e) M) (hk:kl (ds.flatMap fun d=>(its d).map (f d)) M) :
 aq (d3 (d5 t (rT u gw2 (cw ge)) ρ0) w [] M) kl:=by
 refine iE (ds:=ds) (fun i acc M'=>M'=M/\acc=(ds.take i).flatMap fun d=>(its d).map (f d)) (fun i acc M' h=>by rw [h.1];exact hw) ⟨rfl,by simp⟩ ?_ ?_
 ·rintro i d acc M' hd ⟨rfl,rfl⟩
  obtain ⟨ρ1,e1,w2,e2,e3,e4⟩:=hs d (List.mem_of_getElem? hd)
  have hi:i<ds.length:=(List.getElem?_eq_some_iff.mp hd).1
  simp only [d5,bL,kQ,e1,rT]
  refine ⟨ρ1,rfl,?_⟩
  rw [e2]
  show aq (d3 (d5 u (cw ge) ρ1) w2 _ M') _
  have e5:(ds.take (i+1)).flatMap (fun d=>(its d).map (f d))=(ds.take i).flatMap (fun d=>(its d).map (f d))++(its d).map (f d):=by
   rw [List.take_succ,hd];simp
  have l1:=rW (fun d=>(its d).map (f d)) n (ds.take (i+1)) (fun d hd=>by simpa using hn d (List.mem_of_mem_take hd))
  rw [e5] at l1
  simp only [List.length_append,List.length_map,List.length_take] at l1
  refine ym (f d) ?_ e3 e4 ⟨rfl,e5.symm⟩
  have:(min (i+1) ds.length)*n<=ds.length*n:=Nat.mul_le_mul_right _ (Nat.min_le_right _ _)
  omega
 ·rintro acc M' ⟨rfl,rfl⟩
  simpa using hk
def yi (w:Nat)(l:List (List Nat)):List (List Nat):=l.flatMap fun s=>(List.range w).map fun x=>s++[x]
def fx (w:Nat):Nat->List (List Nat)
 |0=>[[]]
 |p+1=>yi w (fx w p)
def jC (m:bq):List (List Nat):=fx m.words m.places
def jD (m:bq)(s:List Nat):Prop:=s.length=m.places/\∀x∈s,x<m.words
theorem vE {w p:Nat}:∀s∈fx w p,s.length=p/\∀x∈s,x<w:=by
 induction p with
 |zero=>intro s hs;simp [fx] at hs;subst hs;simp
 | succ p ih =>
   intro s hs
   simp only [fx,yi,List.mem_flatMap,List.mem_map,List.mem_range] at hs
   obtain ⟨t,ht,x,hx,rfl⟩:=hs
   obtain ⟨h1,h2⟩:=ih t ht
   refine ⟨by simp [h1],fun y hy=>?_⟩
   rcases List.mem_append.mp hy with z|z
   ·exact h2 y z
   ·simp at z;omega
theorem E2 {m:bq}:∀s∈jC m,jD m s:=vE
theorem lJ {w:Nat}(hw:w<=4):∀p≤2,(fx w p).length<=4^p
 |0,_=>by simp [fx]
 | p + 1, hp => by
   have:=lJ hw p (by omega)
   have l:=rW (fun s:List Nat=>(List.range w).map fun x=>s++[x]) 4 (fx w p) (fun d hd=>by simpa using hw)
   simp only [fx,yi]
   calc _<=(fx w p).length*4:=l
    _<=4^p*4:=Nat.mul_le_mul_right _ this
    _=4^(p+1):=by rw [Nat.pow_succ]
theorem Ck {m:bq}(hm:cB m):(jC m).length<=16:=by
 have h:=lJ hm.w4 m.places hm.p2
 have h1:=hm.p1
 have h2:=hm.p2
 have:m.places=1\/m.places=2:=by omega
 rcases this with e|e<;>rw [e] at h<;>unfold jC<;>rw [e]<;>omega
def fD:bt->List Nat->Nat
 |.turn a t _,s=>t.getD (s.getD a 0) 0
 |.join a o t _,s=>(t.getD (s.getD a 0) []).getD (s.getD o 0) 0
 |.move _ o _,s=>s.getD o 0
 |.put _ x _,_=>x
def bt.at':bt->Nat
 |.turn a _ _=>a
 |.join a _ _ _=>a
 |.move a _ _=>a
 |.put a _ _=>a
def jg (d:bt)(s:List Nat):List Nat:=s.take d.at'++[fD d s]++s.drop (d.at'+1)
theorem getD_mem {α:Type}{l:List α}{i:Nat}{d:α}(h:i<l.length):l.getD i d∈l:=by
 rw [List.getD_eq_getElem?_getD,List.getElem?_eq_getElem h];exact List.getElem_mem h
theorem xG {m:bq}{d:bt}{s:List Nat}(hd:cX m.words m.places d)(hs:jD m s):fD d s<m.words:=by
 obtain ⟨hl,hx⟩:=hs
 cases d with
 | turn a t c =>
   obtain ⟨h1,h2,h3⟩:=hd
   have:=hx _ (getD_mem (d:=0) (show a<s.length by omega))
   exact h2.2 _ (getD_mem (by rw [h2.1];exact this))
 | join a o t c =>
   obtain ⟨h1,h2,h3,h4⟩:=hd
   have a1:=hx _ (getD_mem (d:=0) (show a<s.length by omega))
   have a2:=hx _ (getD_mem (d:=0) (show o<s.length by omega))
   have a3:=h3.2 _ (getD_mem (d:=[]) (show s.getD a 0<t.length by rw [h3.1];exact a1))
   exact a3.2 _ (getD_mem (by rw [a3.1];exact a2))
 |move a o c=>exact hx _ (getD_mem (by obtain ⟨h1,h2,h3⟩:=hd;omega))
 |put a x c=>exact hd.2.1
theorem C9 {w p:Nat}{d:bt}(hd:cX w p d):d.at'<p:=by cases d<;>exact hd.1
theorem Aa {m:bq}{d:bt}{s:List Nat}(hd:cX m.words m.places d)(hs:jD m s):jD m (jg d s):=by
 have h1:=C9 hd
 have h2:=xG hd hs
 obtain ⟨hl,hx⟩:=hs
 refine ⟨by simp [jg];omega,fun x hm=>?_⟩
 simp only [jg,List.mem_append,List.mem_singleton] at hm
 rcases hm with (z|z)|z
 ·exact hx x (List.mem_of_mem_take z)
 ·omega
 ·exact hx x (List.mem_of_mem_drop z)
def lL (m:bq)(r:List Nat):Prop:=r.length<=40/\∀i∈r,i<m.deeds.length
def jq (m:bq)(i:Nat):bt:=m.deeds.getD i (.put 0 0 1)
def lT (m:bq):List Nat->List Nat->List Nat
 |[],s=>s
 |i::r,s=>lT m r (jg (jq m i) s)
def gu (m:bq):List Nat->List Nat->List (List Nat)
 |[],s=>[s]
 |i::r,s=>s::gu m r (jg (jq m i) s)
theorem qf {m:bq}(hm:cB m){i:Nat}(hi:i<m.deeds.length):cX m.words m.places (jq m i):=hm.ok _ (getD_mem hi)
theorem wJ {m:bq}(hm:cB m):∀{r:List Nat}{s:List Nat},(∀i∈r,i<m.deeds.length)->jD m s->jD m (lT m r s)
 |[],s,_,h=>h
 |i::r,s,hr,h=>wJ (r:=r) hm (fun j hj=>hr j (List.mem_cons_of_mem _ hj)) (Aa (qf hm (hr i List.mem_cons_self)) h)
theorem sI {m:bq}:∀(r:List Nat) (i:Nat) (s:List Nat),gu m (r++[i]) s=gu m r s++[jg (jq m i) (lT m r s)]
 |[],i,s=>rfl
 |j::r,i,s=>by simp [gu,lT,sI r i]
theorem pI {m:bq}:∀(r s:List Nat),(gu m r s).length=r.length+1
 |[],s=>rfl
 |i::r,s=>by simp [gu,pI r]
theorem sJ {m:bq}:∀(r s:List Nat),(gu m r s)[r.length]?=some (lT m r s)
 |[],s=>rfl
 |i::r,s=>by simp [gu,lT,sJ r]
theorem oW {m:bq}(r s:List Nat):((bR (gu m r s).length (-1)).bind fun j=>Option.map bG (gu m r s)[j]?)=some (bG (lT m r s)):=by
 rw [pI,Er (by omega)]
 show Option.map bG (gu m r s)[r.length+1-1]?=_
 rw [Nat.add_sub_cancel,sJ]
 rfl
theorem AM {s:List Nat}{i:Nat}(hi:i<s.length):(bR (s.map nD).length (i:Int)).bind (fun j=>(s.map nD)[j]?)=some (nD (s.getD i 0)):=by
 rw [fG (by simpa using hi)]
 simp [List.getD_eq_getElem?_getD,hi]
def uO (r:List Nat):D:=.lst (r.map nD)
theorem BJ {m:bq}{i:Nat}(hi:i<m.deeds.length):((bR (m.deeds.map bt.d).length (i:Int)).bind fun j=>(m.deeds.map bt.d)[j]?)=some (jq m i).d:=by
 rw [fG (by simpa using hi)]
 simp [jq,List.getD_eq_getElem?_getD,hi]
theorem Kw {m:bq}{M:Mem}:fo m.d (.int 2) M=some (.tup (m.deeds.map bt.d)):=rfl
theorem BZ {m:bq}{M:Mem}{i:Nat}(hi:i<m.deeds.length):fo (.tup (m.deeds.map bt.d)) (nD i) M=some (jq m i).d:=BJ hi
theorem zR {d:bt}{M:Mem}:fo d.d (.int (-1)) M=some (nD d.cost):=by cases d<;>rfl
theorem md {s:List Nat}{M:Mem}{i:Nat}(hi:i<s.length):fo (bG s) (nD i) M=some (nD (s.getD i 0)):=AM hi
theorem HP {t:List (List Nat)}{M:Mem}{i:Nat}(hi:i<t.length):fo (.tup (t.map bG)) (nD i) M=some (bG (t.getD i [])):=by
 show (bR (t.map bG).length (i:Int)).bind (fun j=>(t.map bG)[j]?)=_
 rw [fG (by simpa using hi)]
 simp [List.getD_eq_getElem?_getD,hi]
def fy (M:Mem)(x:D)(r:List Nat):Prop:=x=.lst (r.map nD)\/∃q,x=.cell q/\M[q]?=some (r.map nD)
theorem fy.l {M:Mem}{r:List Nat}:fy M (.lst (r.map nD)) r:=.inl rfl
theorem fy.sub {M M':Mem}{x:D}{r:List Nat}(h:fy M x r)(s:Sub M M'):fy M' x r:=h.elim .inl fun ⟨q,e,g⟩=>.inr ⟨q,e,s.get g⟩
theorem fy.seq {M:Mem}{x:D}{r:List Nat}(h:fy M x r):cL M x=some (r.map nD):=by
 rcases h with rfl|⟨q,rfl,e⟩
 ·rfl
 ·exact e
theorem fy.is {M:Mem}{x:D}{r:List Nat}(h:fy M x r):eE x=true/\jI x=true/\bZ .list x=some true:=by
 rcases h with rfl|⟨q,rfl,e⟩<;>exact ⟨rfl,rfl,rfl⟩
theorem fy.len {M:Mem}{x:D}{r:List Nat}{k:D->Mem->Prop}(h:fy M x r):aq (gM .len [x] M) k↔k (.int r.length) M:=by
 rcases h with rfl|⟨q,rfl,e⟩
 ·show k (.int (r.map nD).length) M↔_
  simp
 ·show aq (match M[q]? with|some xs=>_|none=>_) k↔_
  rw [e];simp
section
variable {P:Nat->Option Df}(h:HasM0 P){M:Mem}
include h
theorem uB (n:Nat){m:bq}(hm:cB m):aw P (n+8) 13 [m.d] M=.ok .non M:=by
 refine aF (aM h.need_machine rfl ?_)
 simp [dn,pE h.q n (gn hm) (by decide),lC hm]
theorem Du (h15:P 15=some ⟨1,6,dF⟩)(n:Nat){m:bq}(hm:cB m):aw P (n+9) 15 [m.d] M=.ok (.lst ((jC m).map bG)) M:=by
 refine aF (aM h15 rfl ?_)
 have w4:=hm.w4
 have p2:=hm.p2
 simp [dF,uB h n hm]
 simp [bq.d,gG]
 refine ⟨by decide,by omega,?_⟩
 refine eF (ds:=(List.range m.places).map fun (k:Nat)=>D.int (k:Int)) (fun i Z M'=>M'=M/\∃a,Z=[some m.d,some (nD m.words),some (nD m.places),some (.tup (m.deeds.map bt.d)),some (.lst ((fx m.words i).map bG)),a]) (fun _ _ _ _=>rfl) ⟨rfl,none,by simp [bq.d,fx,bG]⟩ ?_ ?_
 ·rintro i d Z M' hd ⟨rfl,a,rfl⟩
  have hi:i<m.places:=by
   have:=(List.getElem?_eq_some_iff.mp hd).1
   simpa using this
  refine ⟨_,rfl,?_⟩
  simp [eE]
  refine yn (ds:=(fx m.words i).map bG) (fun _=>(List.range m.words).map fun (k:Nat)=>D.int (k:Int)) (fun d e=>match d,e with|.tup x,e=>.tup (x++[e])|_,_=>.non) 4 (by simpa using fun _ _=>w4) ?_ rfl ?_ ?_
  ·have:=lJ w4 i (by omega)
   have:(4:Nat)^i<=4^2:=Nat.pow_le_pow_right (by decide) (by omega)
   simp only [List.length_map]
   exact aJ (by omega)
  ·intro d hd
   obtain ⟨s,hs,rfl⟩:=List.mem_map.mp hd
   have ⟨l1,_⟩:=vE s hs
   refine ⟨_,rfl,(fun _=>some ((List.range m.words).map fun (k:Nat)=>D.int (k:Int))),aU ?_,rfl,fun e he=>⟨_,rfl,aF ?_⟩⟩
   ·simp
    omega
   ·simp [bG,sz]
    omega
  ·have e0:((fx m.words i).map bG).flatMap (fun d=>((List.range m.words).map fun (k:Nat)=>D.int (k:Int)).map (fun e=>match d,e with|.tup x,e=>D.tup (x++[e])|_,_=>.non))=(fx m.words (i+1)).map bG:=by
    simp only [fx,yi,List.flatMap_map,List.map_flatMap,List.map_map]
    congr 1
    funext s
    simp [bG,Function.comp_def]
   rw [e0]
   refine ⟨?_,rfl,rfl⟩
   have:=lJ w4 (i+1) (by omega)
   have:(4:Nat)^(i+1)<=4^2:=Nat.pow_le_pow_right (by decide) (by omega)
   simp only [List.length_map]
   exact aJ (by omega)
 ·rintro Z M' ⟨rfl,a,rfl⟩
  simp [jC]
theorem Dt (n:Nat){m:bq}{i:Nat}(hi:i<m.deeds.length):aw P (n+2) 16 [m.d,nD i] M=.ok (.bl true) M:=by
 refine aF (aM h.is_deed_number rfl ?_)
 simp [eP,bq.d,bR,w8 h]
 omega
theorem w5 (n:Nat){m:bq}{x:D}{r:List Nat}(hx:fy M x r)(hr:∀i∈r,i<m.deeds.length):aw P (n+3) 17 [m.d,x] M=.ok .non M:=by
 refine aF (aM h.need_numbers rfl ?_)
 obtain ⟨i1,i2,i3⟩:=hx.is
 simp [cJ,i1,i2,i3]
 refine eF (ds:=dD 0 (r.map nD)) (fun i Z M'=>M'=M/\∃a b,Z=[some m.d,some x,a,b]) (fun _ _ _ e=>by rw [e.1,hx.seq];rfl) ⟨rfl,none,none,rfl⟩ ?_ ?_
 ·rintro i d Z M' hd ⟨rfl,a,b,rfl⟩
  rw [fe] at hd
  rw [List.getElem?_map] at hd
  cases e:r[i]? with
  |none=>rw [e] at hd;cases hd
  | some x =>
    rw [e] at hd
    simp at hd
    subst hd
    refine ⟨_,rfl,?_⟩
    simp [Dt h n (hr x (List.mem_of_getElem? e))]
 ·rintro Z M' ⟨rfl,a,b,rfl⟩
  simp
theorem sF (n:Nat){m:bq}{x:D}{r:List Nat}(hx:fy M x r)(hm:cB m)(hr:lL m r):aw P (n+9) 18 [m.d,x] M=.ok .non M:=by
 have e:=w5 h (n+5) (m:=m) hx hr.2
 refine aF (aM h.need_row rfl ?_)
 simp [dP,uB h n hm,e]
 rw [hx.len]
 have:=hr.1
 simp
 omega
theorem Fo (n:Nat){m:bq}{r:List Nat}(hm:cB m)(hr:lL m r):aw P (n+9) 18 [m.d,uO r] M=.ok .non M:=sF h n .l hm hr
end
section
variable {P:Nat->Option Df}(h:HasM P){M:Mem}
include h
theorem yR (n:Nat){m:bq}{a c:Nat}{t s:List Nat}(hd:cX m.words m.places (.turn a t c))(hs:jD m s):aw P (n+1) 20 [(bt.turn a t c).d,bG s] M=.ok (nD (fD (.turn a t c) s)) M:=by
 obtain ⟨h1,h2,h3⟩:=hd
 have a1:a<s.length:=by rw [hs.1];exact h1
 have a2:s.getD a 0<t.length:=by rw [h2.1];exact hs.2 _ (getD_mem a1)
 refine aF (aM h.turned rfl ?_)
 simp [-jz,-List.getD_eq_getElem?_getD,mV,bt.d,gG,md a1,md a2,fD]
theorem yX (n:Nat){m:bq}{a o c:Nat}{t:List (List Nat)}{s:List Nat}(hd:cX m.words m.places (.join a o t c))(hs:jD m s):aw P (n+1) 21 [(bt.join a o t c).d,bG s] M=.ok (nD (fD (.join a o t c) s)) M:=by
 obtain ⟨h1,h2,h3,h4⟩:=hd
 have a1:a<s.length:=by rw [hs.1];exact h1
 have a2:o<s.length:=by rw [hs.1];exact h2
 have a3:s.getD a 0<t.length:=by rw [h3.1];exact hs.2 _ (getD_mem a1)
 have a4:s.getD o 0<(t.getD (s.getD a 0) []).length:=by rw [(h3.2 _ (getD_mem a3)).1];exact hs.2 _ (getD_mem a2)
 refine aF (aM h.joined rfl ?_)
 simp [-jz,-List.getD_eq_getElem?_getD,mX,bt.d,gG,md a1,md a2,HP a3,md a4,fD]
theorem AV (n:Nat){m:bq}{a o c:Nat}{s:List Nat}(hd:cX m.words m.places (.move a o c))(hs:jD m s):aw P (n+1) 22 [(bt.move a o c).d,bG s] M=.ok (nD (fD (.move a o c) s)) M:=by
 obtain ⟨h1,h2,h3⟩:=hd
 have a2:o<s.length:=by rw [hs.1];exact h2
 refine aF (aM h.moved rfl ?_)
 simp [-jz,-List.getD_eq_getElem?_getD,oP,bt.d,gG,md a2,fD]
theorem AU (n:Nat){a x c:Nat}{s:List Nat}:aw P (n+1) 23 [(bt.put a x c).d,bG s] M=.ok (nD (fD (.put a x c) s)) M:=by
 refine aF (aM h.put_in rfl ?_)
 simp [mW,bt.d,gG,fD]
end
theorem LV:dX.lookup (Str.ofString "turn")=some 20:=by decide +kernel
theorem LU:dX.lookup (Str.ofString "join")=some 21:=by decide +kernel
theorem LR:dX.lookup (Str.ofString "move")=some 22:=by decide +kernel
theorem LQ:dX.lookup (Str.ofString "put")=some 23:=by decide +kernel
theorem Fw {s:List Nat}{M:Mem}{k:D->Mem->Prop}{a:Nat}(ha:a<=s.length):aq (eK false (bG s) .non (.int a) M) k↔k (bG (s.take a)) M:=by
 simp only [eK,bG,a8,cut]
 rw [if_neg (by omega)]
 simp
 rw [Nat.min_eq_left (by simpa using ha)]
theorem Dx {s:List Nat}{M:Mem}{k:D->Mem->Prop}{a:Nat}(ha:a<=s.length):aq (eK false (bG s) (.int a) .non M) k↔k (bG (s.drop a)) M:=by
 simp only [eK,bG,a8,cut]
 rw [if_neg (by omega)]
 simp
 rw [Nat.min_eq_left (by simpa using ha),List.take_of_length_le (by simp)]
section
variable {P:Nat->Option Df}(h:HasM P){M:Mem}
include h
theorem Ds (n:Nat){m:bq}{d:bt}{s:List Nat}(hm:cB m)(hd:cX m.words m.places d)(hs:jD m s):aw P (n+2) 24 [d.d,bG s] M=.ok (bG (jg d s)) M:=by
 have a0:=C9 hd
 have l0:=hs.1
 have p2:=hm.p2
 have key:∀f,aw P (n+1) f [d.d,bG s] M=.ok (nD (fD d s)) M->fo d.d (.int 1) M=some (nD d.at')->(∀k:D->Mem->Prop,(∃y,fo d.d (.int 0) M=some (.str y)/\dX.lookup y=some f))->aw P (n+2) 24 [d.d,bG s] M=.ok (bG (jg d s)) M:=fun f e1 e2 e3=>by
  obtain ⟨y,e3,e4⟩:=e3 fun _ _=>True
  refine aF (aM h.done rfl ?_)
  simp only [qT,aN,fZ,H8,g8,bf,cZ,eW,cx,dv,mS,g7,bc,bB,EE]
  simp [-jz,e1,e2,e3,e4,cy]
  rw [Fw (by omega),e1]
  have e5:(d.at':Int)+1=((d.at'+1:Nat):Int):=by omega
  rw [e5]
  simp only [du,bG,ll]
  refine ⟨by decide,?_,?_⟩
  ·simp
   exact aJ (by omega)
  ·rw [show D.tup (s.map nD)=bG s from rfl,Dx (by omega)]
   simp only [bG,ll]
   refine ⟨?_,?_,trivial⟩
   ·simp
    exact aJ (by omega)
   ·simp [jg]
 cases d with
 |turn a t c=>exact key 20 (yR h n hd hs) rfl fun _=>⟨_,rfl,LV⟩
 |join a o t c=>exact key 21 (yX h n hd hs) rfl fun _=>⟨_,rfl,LU⟩
 |move a o c=>exact key 22 (AV h n hd hs) rfl fun _=>⟨_,rfl,LR⟩
 |put a x c=>exact key 23 (AU h n) rfl fun _=>⟨_,rfl,LQ⟩
theorem oV (n:Nat){m:bq}{x:D}{r s:List Nat}(hx:fy M x r)(hm:cB m)(hrl:r.length<=100000)(hr:∀i∈r,i<m.deeds.length)(hs:jD m s):aw P (n+3) 25 [m.d,x,bG s] M=.ok (.cell M.length) (M++[(gu m r s).map bG]):=by
 refine aF (aM h.all_standing rfl ?_)
 simp [g9,hx.is]
 refine ⟨by decide,?_⟩
 refine eF (ds:=r.map nD) (fun i Z M'=>M'=M++[(gu m (r.take i) s).map bG]/\∃a,Z=[some m.d,some x,some (bG s),some (.cell M.length),a]) (fun _ _ _ e=>by rw [e.1];exact (hx.sub Sub.app).seq) ⟨by simp [gu],none,rfl⟩ ?_ ?_
 ·rintro i d Z M' hd ⟨rfl,a,rfl⟩
  rw [List.getElem?_map] at hd
  cases e:r[i]? with
  |none=>rw [e] at hd;cases hd
  | some x =>
    rw [e] at hd
    simp at hd
    subst hd
    have hx:=hr x (List.mem_of_getElem? e)
    have hi:i<r.length:=(List.getElem?_eq_some_iff.mp e).1
    refine ⟨_,rfl,?_⟩
    have hse:jD m (lT m (r.take i) s):=wJ hm (fun j hj=>hr j (List.mem_of_mem_take hj)) hs
    have hl:=pI (m:=m) (r.take i) s
    have hl2:(r.take i).length=i:=by simp;omega
    simp [-jz,Kw,BZ hx,oW,Ds h n hm (qf hm hx) hse]
    refine ⟨?_,?_⟩
    ·rw [hl,hl2]
     exact Nat.lt_of_le_of_lt (show i+1<=100001 by omega) (by decide)
    ·rw [List.take_succ,e]
     simp [sI]
 ·rintro Z M' ⟨rfl,a,rfl⟩
  simp
def yq (m:bq)(r:List Nat):D:=.tup ((jC m).map fun s=>bG (lT m r s))
theorem uC (h15:P 15=some ⟨1,6,dF⟩)(h46:P 46=some ⟨2,2,fO⟩)(n:Nat){m:bq}{x:D}{r:List Nat}(hx:fy M x r)(hm:cB m)(hrl:r.length<=100000)(hr:∀i∈r,i<m.deeds.length):aw P (n+10) 46 [m.d,x] M=.ok (yq m r) (M++(jC m).map fun s=>(gu m r s).map bG):=by
 refine aF (aM h46 rfl ?_)
 simp [fO,Du h.toHasM0 h15 n hm]
 refine ⟨rfl,?_⟩
 have bl:=Ck hm
 refine comp_map (ds:=(jC m).map bG) (fun i acc M'=>acc=((jC m).take i).map (fun s=>bG (lT m r s))/\M'=M++((jC m).take i).map fun s=>(gu m r s).map bG) (aJ (by simp;omega)) (fun _ _ _ _=>rfl) (by simp) ?_ ?_
 ·rintro i d acc M' hd _ ⟨rfl,eM⟩
  rw [List.getElem?_map] at hd
  cases e:(jC m)[i]? with
  |none=>rw [e] at hd;cases hd
  | some s =>
    rw [e] at hd
    have hd:bG s=d:=Option.some.inj hd
    subst hd
    have hs:=E2 s (List.mem_of_getElem? e)
    refine ⟨_,rfl,?_⟩
    have st:=oV h (n+6) (M:=M') (by rw [eM];exact hx.sub Sub.app) hm hrl hr hs
    simp [st,oW]
    rw [eM,List.take_succ,List.take_succ]
    simp [e]
 ·rintro acc M' _ ⟨rfl,rfl⟩
  simp
  exact ⟨aJ (by omega),by simp [yq,List.take_of_length_le]⟩
theorem yY (h15:P 15=some ⟨1,6,dF⟩)(h27:P 27=some ⟨2,2,dB⟩)(h46:P 46=some ⟨2,2,fO⟩)(n:Nat){m:bq}{x:D}{r:List Nat}(hx:fy M x r)(hm:cB m)(hr:lL m r):aw P (n+11) 27 [m.d,x] M=.ok (yq m r) (M++(jC m).map fun s=>(gu m r s).map bG):=by
 refine aF (aM h27 rfl ?_)
 simp [dB,sF h.toHasM0 (n+1) hx hm hr,uC h h15 h46 n hx hm (tqh hr.1 (by decide)) hr.2]
theorem Fq (h15:P 15=some ⟨1,6,dF⟩)(h27:P 27=some ⟨2,2,dB⟩)(h46:P 46=some ⟨2,2,fO⟩)(n:Nat){m:bq}{r:List Nat}(hm:cB m)(hr:lL m r):aw P (n+11) 27 [m.d,uO r] M=.ok (yq m r) (M++(jC m).map fun s=>(gu m r s).map bG):=yY h h15 h27 h46 n .l hm hr
end
end LD
namespace LD
open PySem
@[simp] theorem BM {j:Nat}{M:Mem}{k:D->Mem->Prop}:aq (gM .len [.cell j] M) k↔∃ds,M[j]?=some ds/\k (.int ds.length) M:=by
 show aq (match M[j]? with|some xs=>_|none=>_) k↔_
 cases M[j]?<;>simp
structure aO (M:Mem) (p B:Nat):Prop where
 ex:∃(c:Nat) (cells:List Int) (at_ st:Int),M[p]?=some [.cell c,.int at_,.int st]/\M[c]?=some (cells.map D.int)/\c<p/\0<=at_/\at_<=B/\0<=st
structure bE (p:Nat) (M M':Mem):Prop where
 len:M.length<=M'.length
 at':∀k,k<M.length->k≠p->M'[k]?=M[k]?
theorem bE.refl {p:Nat}{M:Mem}:bE p M M:=⟨tqg _,fun _ _ _=>rfl⟩
theorem bE.trans {p:Nat}{M M1 M2:Mem}(a:bE p M M1)(b:bE p M1 M2):bE p M M2:=⟨tqh a.len b.len,fun k hk n=>(b.at' k (tqi hk a.len) n).trans (a.at' k hk n)⟩
theorem bE.set {p:Nat}{M:Mem}{ds:List D}:bE p M (M.set p ds):=⟨by simp,fun k _ n=>List.getElem?_set_ne (Ne.symm n)⟩
theorem bE.app {p:Nat}{M X:Mem}:bE p M (M++X):=⟨by simp,fun k hk _=>List.getElem?_append_left hk⟩
theorem bE.get {p k:Nat}{M M':Mem}{ds:List D}(h:bE p M M')(e:M[k]?=some ds)(n:k≠p):M'[k]?=some ds:=by rw [h.at' k (List.getElem?_eq_some_iff.mp e).1 n];exact e
theorem aO.lt {M:Mem}{p B:Nat}(h:aO M p B):p<M.length:=by obtain ⟨_,_,_,_,e,_⟩:=h.ex;exact (List.getElem?_eq_some_iff.mp e).1
theorem aO.app {M X:Mem}{p B:Nat}(h:aO M p B):aO (M++X) p B:=by
 obtain ⟨c,cells,a,st,e1,e2,r⟩:=h.ex
 exact ⟨c,cells,a,st,by rw [List.getElem?_append_left (List.getElem?_eq_some_iff.mp e1).1];exact e1,by rw [List.getElem?_append_left (List.getElem?_eq_some_iff.mp e2).1];exact e2,r⟩
theorem aO.mono {M:Mem}{p B B':Nat}(h:aO M p B)(hb:B<=B'):aO M p B':=by
 obtain ⟨c,cells,a,st,e1,e2,e3,e4,e5,e6⟩:=h.ex
 exact ⟨c,cells,a,st,e1,e2,e3,e4,by omega,e6⟩
theorem aO.setq {M:Mem}{p q B:Nat}{ds:List D}(h:aO M p B)(hq:p<q):aO (M.set q ds) p B:=by
 obtain ⟨c,cells,a,st,e1,e2,e3,e4,e5,e6⟩:=h.ex
 exact ⟨c,cells,a,st,by rw [List.getElem?_set_ne (by omega)];exact e1,by rw [List.getElem?_set_ne (by omega)];exact e2,e3,e4,e5,e6⟩
theorem bE.setq {p q:Nat}{M M':Mem}{ds:List D}(h:bE p M M')(hq:M.length<=q):bE p M (M'.set q ds):=⟨by simpa using h.len,fun k hk n=>by rw [List.getElem?_set_ne (by omega)];exact h.at' k hk n⟩
theorem zG {a b A B:Int}(h1:0<=a)(h2:a<=A)(h3:0<=b)(h4:b<=B):0<=a*b/\a*b<=A*B:=
 ⟨Int.mul_nonneg h1 h3,Int.mul_le_mul h2 h4 h3 (Int.le_trans h1 h2)⟩
def D2:List D:=[.int 2147483629,.int 2147483587,.int 2147483579,.int 2147483563,.int 2147483549,.int 2147483543,.int 2147483497,.int 2147483489,.int 2147483477,.int 2147483423,.int 2147483399,.int 2147483353,.int 2147483323]
theorem pK (j:Int)(M:Mem):∃q:Int,fo (.lst D2) (.int (j % 13)) M=some (.int q)/\0<q/\q<2147483648:=by
 have h1:0<=j % 13:=Int.emod_nonneg _ (by decide)
 have h2:j % 13<13:=Int.emod_lt_of_pos _ (by decide)
 generalize j % 13=i at h1 h2
 have:i=0\/i=1\/i=2\/i=3\/i=4\/i=5\/i=6\/i=7\/i=8\/i=9\/i=10\/i=11\/i=12:=by omega
 rcases this with rfl|rfl|rfl|rfl|rfl|rfl|rfl|rfl|rfl|rfl|rfl|rfl|rfl<;>exact ⟨_,rfl,by decide,by decide⟩
section
variable {P:Nat->Option Df}(h:HasP0 P){M:Mem}
include h
theorem yT (n:Nat){x a:Int}(h0:0<=a)(h1:a<=1000000):aq (aw P (n+1) 28 [.int x,.int a] M) fun d M'=>M'=M/\∃v:Int,d=.int v/\0<=v:=by
 refine aM h.law_spread rfl ?_
 simp [-wC,iz]
 by_cases hx:(1000000000000000000:Int)<=x
 ·exact .inr ⟨hx,by omega⟩
 ·have r1:=Int.emod_nonneg x (show (1000000007:Int)≠0 by decide)
  have r2:=Int.emod_lt_of_pos x (show (0:Int)<1000000007 by decide)
  have r3:=Int.emod_nonneg x (show (65537:Int)≠0 by decide)
  have r4:=Int.emod_lt_of_pos x (show (0:Int)<65537 by decide)
  obtain ⟨m1,m2⟩:=zG r1 (Int.le_of_lt r2) (show 0<=2*a+69069 by omega) (show 2*a+69069<=2069069 by omega)
  refine .inl ⟨by omega,by decide,by decide,by decide,.inl ⟨by omega,by omega⟩,by omega,?_⟩
  obtain ⟨q1,e1,p1,p2⟩:=pK a M
  refine ⟨.int q1,e1,?_⟩
  generalize (x % 1000000007*(2*a+69069)+a*40503+977)^3=y1
  have b1:=Int.emod_nonneg y1 (show q1≠0 by omega)
  have b2:=Int.emod_lt_of_pos y1 p1
  generalize hz1:y1 % q1=one at b1 b2
  obtain ⟨m3,m4⟩:=zG b1 (show one<=2147483648 by omega) (show 0<=a+3 by omega) (show a+3<=1000003 by omega)
  simp only [qF,vf,gV,uR,hz1]
  refine ⟨p1,.inr ⟨by omega,by omega⟩,⟨by decide,by decide,by omega⟩,?_⟩
  obtain ⟨q2,e2,p3,p4⟩:=pK (a+5) M
  refine ⟨.int q2,e2,?_⟩
  generalize (one*(a+3)+x % 65537+5)^(5:Int).toNat=y2
  have b3:=Int.emod_nonneg y2 (show q2≠0 by omega)
  have b4:=Int.emod_lt_of_pos y2 p3
  generalize hz2:y2 % q2=two at b3 b4
  have r5:=Int.emod_nonneg one (show (1009:Int)≠0 by decide)
  have r6:=Int.emod_lt_of_pos one (show (0:Int)<1009 by decide)
  simp only [qF,vf,gV,uR,hz2]
  refine ⟨p3,by decide,⟨by decide,by decide,by omega⟩,?_⟩
  obtain ⟨q3,e3,p5,p6⟩:=pK (a+7) M
  refine ⟨.int q3,e3,?_⟩
  generalize (two+one % 1009+a)^(3:Int).toNat=y3
  have b5:=Int.emod_nonneg y3 (show q3≠0 by omega)
  simp only [qF,vf,gV,uR]
  refine ⟨p5,.inr ⟨by decide,by decide⟩,.inr ⟨by decide,by decide⟩,trivial,_,rfl,by omega⟩
omit h in
theorem L6:bR 3 0=some 0:=rfl
omit h in
theorem L5:bR 3 1=some 1:=rfl
omit h in
theorem HK:bR 3 2=some 2:=rfl
omit h in
theorem rQ {l:List Int}{i:Int}(h0:0<=i)(h1:i<l.length):∃x,((bR l.length i).bind fun j=>Option.map D.int l[j]?)=some (.int x):=by
 obtain ⟨k,rfl⟩:=Int.eq_ofNat_of_zero_le h0
 have hk:k<l.length:=by omega
 refine ⟨l[k],?_⟩
 rw [fG hk]
 simp [hk]
def mB:GS:=ah (aP (.one 4) (aA false .mod (aQ (af 0) (gI 2)) (af 1))) (ah (dW (af 0) (gI 2) (aA false .fdiv (aQ (af 0) (gI 2)) (af 1))) (ah (aY (af 4)) av))
def qX (c:Call):GS:=ah (dW (af 0) (gI 1) (aA false .add (af 2) (gI 1))) (ah (dW (af 0) (gI 2) (ax 28 c (aa (af 3) (aa (af 2) aj)))) av)
omit h in
theorem sC {M M1:Mem}{p c many B:Nat}{cells:List Int}{a st:Int}{x y:Option D}(e1:M1[p]?=some [.cell c,.int a,.int st])(e2:M1[c]?=some (cells.map D.int))(lt:c<p)(a0:0<=a)(aB:a<=(B+1:Nat))(s0:0<=st)(k:bE p M M1)
 (h0:0<many) (h1:many<=10000000):aq (mB [some (.cell p),some (nD many),x,y,none] M1) (jA fun d M'=>∃v:Nat,d=nD v/\v<many/\aO M' p (B+1)/\bE p M M'):=by
 have hp:p<M1.length:=(List.getElem?_eq_some_iff.mp e1).1
 have ne:c≠p:=tqk lt
 have b0:(0:Int)<(many:Int):=by omega
 have r1:=Int.emod_nonneg st (show (many:Int)≠0 by omega)
 have r2:=Int.emod_lt_of_pos st b0
 simp [mB,e1,bR]
 refine ⟨by omega,by omega,(st % many).toNat,by omega,by omega,⟨c,cells,a,st / many,?_,?_,lt,a0,aB,Int.ediv_nonneg s0 (by omega)⟩,k.trans bE.set⟩
 ·simp [hp]
 ·rw [List.getElem?_set_ne (Ne.symm ne)];exact e2
theorem v5 (n:Nat){p B many:Nat}(hp:aO M p B)(hB:B<=1000000)(h0:0<many)(h1:many<=10000000):aq (aw P (n+2) 31 [.cell p,nD many] M) fun d M'=>∃v:Nat,d=nD v/\v<many/\aO M' p (B+1)/\bE p M M':=by
 obtain ⟨c,cells,a,st,e1,e2,lt,a0,aB,s0⟩:=hp.ex
 have ne:c≠p:=tqk lt
 have hpl:p<M.length:=(List.getElem?_eq_some_iff.mp e1).1
 refine aM h.law_take rfl ?_
 show aq (ah (aZ _ (ah _ (ah _ (ah _ (qX (aw P (n+1)))))) _) mB [some (.cell p),some (nD many),none,none,none] M) _
 have mid:∀(x:Int),aq (qX (aw P (n+1)) [some (.cell p),some (nD many),some (.int a),some (.int x),none] M) (mz mB (jA fun d M'=>∃v:Nat,d=nD v/\v<many/\aO M' p (B+1)/\bE p M M')):=by
  intro x
  unfold qX
  simp [e1,bR]
  refine bb (yT h n (x:=x) (a:=a) a0 (by omega)) fun d M' ⟨e,v,ev,v0⟩=>?_
  subst e ev
  refine ⟨[.cell c,.int (a+1),.int st],by simp [hpl],2,by simp,?_⟩
  have k1:bE p M ((M.set p [.cell c,.int (a+1),.int st]).set p ([.cell c,.int (a+1),.int st].set 2 (.int v))):=bE.set.trans bE.set
  refine sC (c:=c) (cells:=cells) (a:=a+1) (st:=v) ?_ ?_ lt (by omega) (by omega) v0 k1 h0 h1
  ·simp [hpl]
  ·rw [List.getElem?_set_ne (Ne.symm ne),List.getElem?_set_ne (Ne.symm ne)];exact e2
 have c0:(0:Int)<=(cells.length:Int):=by omega
 simp [e1,e2,L6,L5,HK,nD]
 by_cases c1:st<many
 ·refine .inr ⟨c1,?_⟩
  by_cases c2:a<(cells.length:Int)
  ·obtain ⟨x,ex⟩:=rQ a0 c2
   exact .inr ⟨c2,_,ex,mid x⟩
  ·refine .inl ⟨by omega,?_⟩
   by_cases c3:cells=[]
   ·exact .inl ⟨c3,mid 0⟩
   ·have c4:0<cells.length:=List.length_pos_iff.mpr c3
    have r1:=Int.emod_nonneg (a*5+3) (show (cells.length:Int)≠0 by omega)
    have r2:=Int.emod_lt_of_pos (a*5+3) (show (0:Int)<(cells.length:Int) by omega)
    obtain ⟨x,ex⟩:=rQ r1 r2
    refine .inr ⟨c4,_,ex,?_⟩
    simp only [qF]
    exact ⟨by omega,mid _⟩
 ·refine .inl ⟨by omega,?_⟩
  exact sC e1 e2 lt a0 (by omega) s0 .refl h0 h1
end
end LD
namespace LD
open PySem
def bt.withC:bt->Nat->bt
 |.turn a t _,c=>.turn a t c
 |.join a o t _,c=>.join a o t c
 |.move a o _,c=>.move a o c
 |.put a x _,c=>.put a x c
theorem AB {w p c:Nat}{d:bt}(h:cX w p d)(hc:gk c):cX w p (d.withC c):=by
 cases d with
 |turn=>exact ⟨h.1,h.2.1,hc⟩
 |join=>exact ⟨h.1,h.2.1,h.2.2.1,hc⟩
 |move=>exact ⟨h.1,h.2.1,hc⟩
 |put=>exact ⟨h.1,h.2.1,hc⟩
theorem EW {w p:Nat}{d:bt}(h:cX w p d):gk d.cost:=by
 cases d with
 |turn=>exact h.2.2
 |join=>exact h.2.2.2
 |move=>exact h.2.2
 |put=>exact h.2.2
theorem Cd {d:bt}{c:Nat}{M:Mem}{k:D->Mem->Prop}(hk:k (d.withC c).d M):aq (eK false d.d .non (.int (-1)) M) fun x M=>aq (fH false .add x (.tup [nD c]) M) k:=by
 cases d<;>(simp [bt.d,eK,a8,cut];exact ⟨by decide,hk⟩)
theorem AQ (n:Nat)(d:bt):aK (n+3) d.d=true:=by
 have tp:∀(n:Nat) (l:List Nat),(l.map nD).all (aK n)=true:=fun n l=>by
  rw [List.all_eq_true];intro x hx;obtain ⟨i,_,rfl⟩:=List.mem_map.mp hx;cases n<;>rfl
 cases d with
 |turn a t c=>simp [bt.d,aK,bG,nD];decide +kernel
 |join a o t c=>simp [bt.d,aK,nD,bG];decide +kernel
 |move a o c=>simp [bt.d,aK,nD];decide +kernel
 |put a x c=>simp [bt.d,aK,nD];decide +kernel
theorem ne_nil {M:Mem}{q:Nat}{ds:List bt}(e:M[q]?=some (ds.map bt.d)):bU .ne (.cell q) (.lst []) M=some (!ds.isEmpty):=by
 have hp:(ds.map bt.d).all (aK 63)=true:=by
  rw [List.all_eq_true];intro x hx;obtain ⟨d,_,rfl⟩:=List.mem_map.mp hx;exact AQ 60 d
 have hv:view M (.cell q)=.lst (ds.map bt.d):=by simp [view,e]
 have h1:aK 64 (.lst (ds.map bt.d))=true:=hp
 refine r9 (by rw [hv];exact h1) rfl ?_
 rw [hv]
 cases ds<;>rfl
@[simp] theorem zF {m:Bool}{x:List D}{j:Int}{M:Mem}{k:D->Mem->Prop}:aq (fH m .mul (.tup x) (.int j) M) k↔(x.length*j.toNat<=sz/\-(2^63)<=j/\j<2^63)/\k (.tup (List.replicate j.toNat x).flatten) M:=kS
@[simp] theorem Hu {m:Bool}{x:List D}{j:Int}{M:Mem}{k:D->Mem->Prop}:aq (fH m .mul (.lst x) (.int j) M) k↔(x.length*j.toNat<=sz/\-(2^63)<=j/\j<2^63)/\aq (bQ m (List.replicate j.toNat x).flatten M) k:=kS
theorem uF {xs:List D}{a:Nat}{M:Mem}{k:D->Mem->Prop}:aq (eK false (.lst xs) .non (.int a) M) k↔(xs.take a).length<=sz/\k (.lst (xs.take a)) M:=by
 have e:cut xs 0 (min a xs.length)=xs.take a:=by
  unfold cut
  rcases Nat.le_total a xs.length with h|h
  ·rw [Nat.min_eq_left h];simp
  ·rw [Nat.min_eq_right h];simp [List.take_of_length_le h]
 show aq (match a8 xs.length 0 D.non,a8 xs.length xs.length (.int a) with|some l,some h=>bQ false (cut xs l h) M|_,_=>.bad) k↔_
 have e2:a8 xs.length xs.length (.int a)=some (min a xs.length):=by
  show some _=_
  rw [if_neg (by omega)];simp
 rw [e2]
 show aq (bQ false (cut xs 0 (min a xs.length)) M) k↔_
 rw [e,bW]
theorem A4 {xs:List D}{a:Nat}{M:Mem}{k:D->Mem->Prop}:aq (eK false (.lst xs) (.int a) .non M) k↔(xs.drop a).length<=sz/\k (.lst (xs.drop a)) M:=by
 have e:cut xs (min a xs.length) xs.length=xs.drop a:=by
  unfold cut
  rcases Nat.le_total a xs.length with h|h
  ·rw [Nat.min_eq_left h,List.take_of_length_le (by simp)]
  ·rw [Nat.min_eq_right h];simp [List.drop_eq_nil_of_le h]
 show aq (match a8 xs.length 0 (.int a),a8 xs.length xs.length D.non with|some l,some h=>bQ false (cut xs l h) M|_,_=>.bad) k↔_
 have e2:a8 xs.length 0 (.int a)=some (min a xs.length):=by
  show some _=_
  rw [if_neg (by omega)];simp
 rw [e2]
 show aq (bQ false (cut xs (min a xs.length) xs.length) M) k↔_
 rw [e,bW]
theorem vt {w:Nat}{ge:GE}{Z:Env}{M:Mem}{kl:List D->Mem->Prop}(f:Nat->Nat)(hw:w<=100)(hf:∀k,k<w->ge (some (.int (k:Int))::Z) M=.ok (nD (f k)) M)(hk:kl (((List.range w).map f).map nD) M) :
 aq (d3 (d5 (.one 0) (cw ge) (none::Z)) (fun _=>some ((List.range w).map fun (k:Nat)=>D.int (k:Int))) [] M) kl:=by
 refine nZ (ds:=(List.range w).map fun (k:Nat)=>D.int (k:Int)) (fun d=>match d with|.int i=>nD (f i.toNat)|_=>.non) (aJ (by simp;omega)) rfl (fun d hd=>?_) ?_
 ·obtain ⟨k,hk,rfl⟩:=List.mem_map.mp hd
  exact ⟨_,rfl,hf k (List.mem_range.mp hk)⟩
 ·simpa [Function.comp_def] using hk
theorem v3 {w:Nat}{f:Nat->Nat}(hf:∀k,k<w->f k<w):iB w ((List.range w).map f):=⟨by simp,fun x hx=>by
 obtain ⟨k,hk,rfl⟩:=List.mem_map.mp hx
 exact hf k (List.mem_range.mp hk)⟩
section
variable {P:Nat->Option Df}(h:HasP0 P){M:Mem}
include h
theorem Dw (n:Nat){p B:Nat}(hp:aO M p B):aq (aw P (n+1) 30 [.cell p] M) fun d M'=>d=.cell p/\aO M' p B/\bE p M M':=by
 obtain ⟨c,cells,a,st,e1,e2,lt,a0,aB,s0⟩:=hp.ex
 have ne:c≠p:=tqk lt
 have hpl:p<M.length:=(List.getElem?_eq_some_iff.mp e1).1
 refine aM h.law_anew rfl ?_
 simp [jL,e1,HK]
 refine ⟨⟨c,cells,a,0,by simp [hpl],?_,lt,a0,aB,by omega⟩,bE.set⟩
 rw [List.getElem?_set_ne (Ne.symm ne)];exact e2
theorem tk (n:Nat){p B many:Nat}{k:D->Mem->Prop}(hp:aO M p B)(hB:B<=1000000)(h0:0<many)(h1:many<=10000000)(hk:∀(v:Nat) (M':Mem),v<many->aO M' p (B+1)->bE p M M'->k (nD v) M'):aq (aw P (n+2) 31 [.cell p,nD many] M) k:=
 bb (v5 h n hp hB h0 h1) fun d M' ⟨v,e,hv,hp',hk'⟩=>by subst e;exact hk v M' hv hp' hk'
end
theorem bd {B c k m:Nat}(h:B<=c)(e:c+k<=m):B+k<=m:=tqh (Nat.add_le_add_right h k) e
theorem xT {B k m:Nat}(e:k<=m):B+k<=B+m:=Nat.add_le_add_left e B
theorem oA {xs:List D}{v:Nat}{M:Mem}(h:v<xs.length):fo (.lst xs) (nD v) M=some xs[v]:=by
 show (bR xs.length (v:Int)).bind (fun j=>xs[j]?)=_
 rw [fG h]
 simp [h]
theorem xO {Z:Env}{M:Mem}{j v c:Nat}(h:Z[j]?.getD none=some (nD v)):(aG (aW .lt (af j) (gC (.int (c:Int)))):GT) Z M=.ok (decide (v<c)) M:=by
 refine aU ?_
 simp only [iP,jf,bf,cZ]
 refine ⟨_,h,_,rfl,_,rfl,?_,trivial⟩
 simp
theorem kj {Z:Env}{M:Mem}{j v c:Nat}(h:Z[j]?.getD none=some (nD v)):(aG (aW .eq (af j) (gC (.int (c:Int)))):GT) Z M=.ok ((v:Int)==(c:Int)) M:=by
 refine aU ?_
 simp only [iP,jf,bf,cZ]
 exact ⟨_,h,_,rfl,_,rfl,rfl,trivial⟩
section
variable {Z:Env}{M:Mem}{g a:GE}{rest:GS}{kf:Fl->Mem->Prop}
section
variable {P:Nat->Option Df}(hp_:HasP0 P)(n:Nat){i j p B many:Nat}(hj:Z[j]?.getD none=some (.cell p))(hg:g Z M=.ok (nD many) M)(hp:aO M p B)(hB:B<=1000000)(h0:0<many)(h1:many<=10000000)
include hp_ hj hg hp hB h0 h1
theorem je:aq (ax 31 (aw P (n+2)) (aa (af j) (aa g aj)) Z M) fun d M'=>∃v:Nat,d=nD v/\v<many/\aO M' p (B+1)/\bE p M M':=by
 rw [cS (aC (aS hj) (aC hg rfl))]
 exact v5 hp_ n hp hB h0 h1
theorem fB (hk:∀(v:Nat) (M':Mem),v<many->aO M' p (B+1)->bE p M M'->aq (rest (Z.set i (some (nD v))) M') kf):aq (ah (aP (.one i) (ax 31 (aw P (n+2)) (aa (af j) (aa g aj)))) rest Z M) kf:=by
 refine fm (je hp_ n hj hg hp hB h0 h1) ?_
 rintro x M' ⟨v,rfl,a,b,c⟩
 exact hk v M' a b c
theorem BY {xs:List D}(hl:a Z M=.ok (.lst xs) M)(hz:xs.length=many):aq (aQ a (ax 31 (aw P (n+2)) (aa (af j) (aa g aj))) Z M) fun d M'=>d∈xs/\aO M' p (B+1)/\bE p M M':=by
 unfold aQ
 rw [hl,bL,du,bL]
 refine bb (je hp_ n hj hg hp hB h0 h1) ?_
 rintro x M' ⟨v,rfl,a,b,c⟩
 rw [oA (by omega)]
 exact ⟨List.getElem_mem _,b,c⟩
end
end
section
variable {Z:Env}{M:Mem}{k:D->Mem->Prop}
theorem kK {e:GE}{K:Fl->Mem->Prop}(h:aq (e Z M) fun x M=>K (.ret x) M):aq (ah (aY e) av Z M) K:=by
 simp only [aN,cx]
 exact h
theorem zH {e:GE}{j v w:Nat}(he:e Z M=.ok (nD v) M)(hj:Z[j]?.getD none=some (nD w))(hw:0<w):aA false .mod e (af j) Z M=.ok (nD (v % w)) M:=by
 unfold aA
 rw [he]
 show (af j Z M).bind _=_
 rw [aS hj]
 show (if (0:Int)<(w:Int) then Res.ok (D.int ((v:Int) % (w:Int))) M else .bad)=_
 rw [if_pos (by omega)]
 rfl
theorem sk {e f:GE}{v w:Nat}(he:e Z M=.ok (nD v) M)(hf:f Z M=.ok (nD w) M):aA false .add e f Z M=.ok (nD (v+w)) M:=by
 unfold aA
 rw [he]
 show (f Z M).bind _=_
 rw [hf]
 rfl
theorem Fn {e:GE}{v c:Nat}(he:e Z M=.ok (nD v) M)(hc:c<=v):aA false .sub e (gC (.int (c:Int))) Z M=.ok (nD (v-c)) M:=by
 unfold aA
 rw [he]
 show Res.ok (D.int ((v:Int)-(c:Int))) M=_
 rw [<- Int.ofNat_sub hc]
end
section
variable {P:Nat->Option Df}(h:HasP P){M:Mem}
include h
theorem yS (n:Nat){p B w:Nat}(hp:aO M p B)(hB:B<=900000)(w2:2<=w)(w4:w<=4):aq (aw P (n+3) 32 [.cell p,nD w] M) fun d M'=>∃t,d=bG t/\iB w t/\aO M' p (B+7)/\bE p M M':=by
 have w0:0<w:=tqi (by decide) w2
 have wM:w<=10000000:=tqh w4 (tqq rfl)
 refine aM h.law_tab rfl ?_
 show aq (jk (aw P (n+2)) [some (.cell p),some (nD w),none,none,none,none] M) _
 unfold jk
 refine fB h n (many:=6) rfl rfl hp (tqh hB (by decide)) (by decide) (by decide) fun kind M1 hk p1 k1=>?_
 refine fB h n (many:=w) rfl rfl p1 (bd (k:=1) hB (by decide)) w0 wM fun word M2 hw p2 k2=>?_
 refine fB h n (many:=w) rfl rfl p2 (bd (k:=2) hB (by decide)) w0 wM fun other M3 ho p3 k3=>?_
 have K3:=(k1.trans k2).trans k3
 have fin:∀(l:List Nat) (M':Mem),iB w l->aO M' p (B+7)->bE p M M'->(l.map nD).length<=sz/\∃t,D.tup (l.map nD)=bG t/\iB w t/\aO M' p (B+7)/\bE p M M':=fun l M' hl hp' hk'=>⟨aJ (by rw [List.length_map,hl.1];omega),l,rfl,hl,hp',hk'⟩
 have p7:aO M3 p (B+7):=p3.mono (xT (k:=3) (by decide))
 show aq (ah _ _ [some (.cell p),some (nD w),some (nD kind),some (nD word),some (nD other),none] M3) _
 refine di (xO (c:=2) rfl) (fun _=>?_) fun _=>?_
 ·simp only [aN,cx,fg,bc,bB,jW,iO,bf]
  refine ⟨_,rfl,_,rfl,⟨by omega,by omega⟩,?_⟩
  refine comp_map (ds:=(List.range w).map fun (k:Nat)=>D.int (k:Int)) (fun i acc M'=>∃t:List Nat,acc=t.map nD/\(∀x∈t,x<w)/\aO M' p (B+3+i)/\bE p M M') (aJ (by simp;omega)) (fun _ _ _ _=>rfl) ⟨[],rfl,(fun _ hx=>nomatch hx),p3,K3⟩ ?_ ?_
  ·rintro i d acc M' hd _ ⟨t,rfl,ht,hp',hk'⟩
   have hi:i<w:=by
    have:=(List.getElem?_eq_some_iff.mp hd).1
    simpa using this
   refine ⟨_,rfl,bb (je h n (many:=w) rfl rfl hp' (by omega) w0 wM) ?_⟩
   rintro _ M4 ⟨v,rfl,hv,p4,k4⟩
   refine ⟨t++[v],by rw [List.map_append];rfl,fun x hx=>?_,p4,hk'.trans k4⟩
   rcases List.mem_append.mp hx with z|z
   ·exact ht x z
   ·rw [List.mem_singleton.mp z];exact hv
  ·rintro acc M' hl ⟨t,rfl,ht,hp',hk'⟩
   simp only [List.length_map,List.length_range] at hl hp'
   exact bW.mpr (fin t M' ⟨hl,ht⟩ (hp'.mono (by omega)) hk')
 refine di (kj (c:=2) rfl) (fun _=>?_) fun _=>?_
 ·simp only [aN,cx,fg,bc,bB,jW,iO,bf]
  refine ⟨_,rfl,_,rfl,⟨by omega,by omega⟩,?_⟩
  exact vt (fun k=>(k+1+word) % w) (by omega) (fun k hk=>zH (sk (sk (aS rfl) rfl) (aS rfl)) rfl w0) (bW.mpr (fin _ M3 (v3 fun k _=>Nat.mod_lt _ w0) p7 K3))
 refine di (kj (c:=3) rfl) (fun _=>?_) fun _=>?_
 ·simp only [aN,cx,fg,bc,bB,jW,iO,bf]
  refine ⟨_,rfl,_,rfl,⟨by omega,by omega⟩,?_⟩
  refine vt (fun k=>if k=word then other else k) (by omega) (fun k hk=>?_) (bW.mpr (fin _ M3 (v3 fun k hk=>by split<;>assumption) p7 K3))
  have e:(aG (aW .eq (af 0) (af 4)):GT) [some (.int (k:Int)),some (.cell p),some (nD w),some (nD kind),some (nD word),some (nD other),none] M3=.ok ((k:Int)==(word:Int)) M3:=rfl
  by_cases ck:k=word
  ·rw [if_pos ck]
   exact oz (k:=true) (e.trans (by rw [ck,beq_self_eq_true])) (fun _=>rfl) (fun z=>nomatch z)
  ·rw [if_neg ck]
   exact oz (k:=false) (e.trans (by rw [beq_eq_false_iff_ne.mpr (by omega)])) (fun z=>nomatch z) (fun _=>rfl)
 refine di (kj (c:=4) rfl) (fun _=>kK ?_) fun _=>?_
 ·simp only [dv,g7,bc,bB,bf]
  refine ⟨_,rfl,aJ (n:=1) (by decide),_,rfl,zF.mpr ⟨⟨aJ (by simp;omega),by omega,by omega⟩,List.replicate w word,?_,⟨List.length_replicate,fun x hx=>by rw [List.eq_of_mem_replicate hx];exact hw⟩,p7,K3⟩⟩
  simp [bG,nD]
 ·simp only [aN,fZ,ED,bf,zc,cx,fg,bc,bB,eW]
  simp
  refine ⟨by omega,aJ (by omega),word,fG hw,other,fG ho,((List.range w).set word other).set other word,?_,⟨by simp,fun x hx=>?_⟩,p7.app,K3.trans bE.app⟩
  ·simp [bG,nD,List.map_set]
  ·rcases List.mem_or_eq_of_mem_set hx with z|rfl
   ·rcases List.mem_or_eq_of_mem_set z with y|rfl
    ·exact List.mem_range.mp y
    ·exact ho
   ·exact hw
theorem AZ (n:Nat){p B w pl:Nat}(hp:aO M p B)(hB:B<=800000)(w2:2<=w)(w4:w<=4)(p1:1<=pl)(p2:pl<=2):aq (aw P (n+4) 33 [.cell p,nD w,nD pl] M) fun d M'=>∃e:bt,d=e.d/\cX w pl e/\aO M' p (B+40)/\bE p M M':=by
 have pM:pl<=10000000:=tqh p2 (tqq rfl)
 refine aM h.law_deed rfl ?_
 show aq (ik (aw P (n+3)) [some (.cell p),some (nD w),some (nD pl),none,none,none,none] M) _
 unfold ik
 refine fB h (n+1) (many:=8) rfl rfl hp (tqh hB (by decide)) (by decide) (by decide) fun kind M1 hk q1 k1=>?_
 refine fm (k:=fun d M'=>∃v:Nat,d=nD (1+v)/\v<3/\aO M' p (B+2)/\bE p M1 M') ?_ ?_
 ·rw [dv]
  simp only [cZ]
  refine bb (je h (n+1) (many:=3) rfl rfl q1 (bd (k:=1) hB (by decide)) (by decide) (by decide)) ?_
  rintro _ M2 ⟨v,rfl,hv,q,kk⟩
  exact gV.mpr ⟨v,by show D.int (1+(v:Int))=D.int ((1+v:Nat):Int);rw [Int.natCast_add];rfl,hv,q,kk⟩
 rintro _ M2 ⟨price,rfl,hc,q2,k2⟩
 refine fB h (n+1) (many:=pl) rfl rfl q2 (bd (k:=2) hB (by decide)) p1 pM fun at_ M3 ha q3 k3=>?_
 refine fB h (n+1) (many:=pl) rfl rfl q3 (bd (k:=3) hB (by decide)) p1 pM fun other M4 ho q4 k4=>?_
 have K4:=((k1.trans k2).trans k3).trans k4
 have co:gk (1+price):=⟨by omega,by omega⟩
 have q40:aO M4 p (B+40):=q4.mono (xT (k:=4) (by decide))
 show aq (ah _ _ [some (.cell p),some (nD w),some (nD pl),some (nD kind),some (nD (1+price)),some (nD at_),some (nD other)] M4) _
 refine di (xO (c:=3) rfl) (fun _=>kK ?_) fun _=>?_
 ·simp only [g7,bc,bB,cZ,bf,ff]
  refine ⟨_,rfl,_,rfl,_,rfl,bb (yS h n q4 (bd (k:=4) hB (by decide)) w2 w4) fun d M' ⟨t,e,ht,hp',hk'⟩=>⟨_,rfl,aJ (n:=4) (by decide),.turn at_ t (1+price),?_,⟨ha,ht,co⟩,hp'.mono (xT (k:=11) (by decide)),K4.trans hk'⟩⟩
  subst e;rfl
 refine di (xO (c:=5) rfl) (fun _=>kK ?_) fun _=>?_
 ·obtain ⟨o,eo,ho'⟩:∃o:Nat,ic (aG (aW .eq (af 3) (gI 3))) (aA false .mod (aA false .add (af 5) (gI 1)) (af 2)) (af 6) [some (.cell p),some (nD w),some (nD pl),some (nD kind),some (nD (1+price)),some (nD at_),some (nD other)] M4=.ok (nD o) M4/\o<pl:=by
   have e:(aG (aW .eq (af 3) (gI 3)):GT) [some (.cell p),some (nD w),some (nD pl),some (nD kind),some (nD (1+price)),some (nD at_),some (nD other)] M4=.ok ((kind:Int)==3) M4:=kj (c:=3) rfl
   cases q:(kind:Int)==3 with
   |true=>rw [q] at e;exact ⟨(at_+1) % pl,oz e (fun _=>zH (w:=pl) (sk (v:=at_) (w:=1) (aS rfl) rfl) rfl p1) (fun z=>nomatch z),Nat.mod_lt _ p1⟩
   |false=>rw [q] at e;exact ⟨other,oz e (fun z=>nomatch z) (fun _=>aS rfl),ho⟩
  simp only [g7,bc,bB,cZ,bf]
  refine ⟨_,rfl,?_⟩
  rw [eo,du]
  exact ⟨_,rfl,aJ (n:=4) (by decide),.move at_ o (1+price),rfl,⟨ha,ho',co⟩,q40,K4⟩
 refine di (kj (c:=5) rfl) (fun _=>kK ?_) fun _=>?_
 ·simp only [g7,bc,bB,cZ]
  show aq (aw P (n+3) 31 [.cell p,nD w] M4) _
  refine tk h (n+1) q4 (bd (k:=4) hB (by decide)) (tqi (by decide) w2) (tqh w4 (tqq rfl)) fun v M5 hv q5 k5=>?_
  exact ⟨aJ (n:=4) (by decide),.put at_ v (1+price),rfl,⟨ha,hv,co⟩,q5.mono (xT (k:=5) (by decide)),K4.trans k5⟩
 ·simp only [aN,cx,g7,bc,bB,cZ,fg,jW,iO,bf]
  refine ⟨_,rfl,_,rfl,_,rfl,_,rfl,⟨by omega,by omega⟩,?_⟩
  refine comp_map (ds:=(List.range w).map fun (k:Nat)=>D.int (k:Int)) (fun i acc M'=>∃t:List (List Nat),acc=t.map bG/\(∀x∈t,iB w x)/\aO M' p (B+4+i*7)/\bE p M M') (aJ (by simp;omega)) (fun _ _ _ _=>rfl) ⟨[],rfl,(fun _ hx=>nomatch hx),q4,K4⟩ ?_ ?_
  ·rintro i d acc M' hd _ ⟨t,rfl,ht,hp',hk'⟩
   have hi:i<w:=by
    have:=(List.getElem?_eq_some_iff.mp hd).1
    simpa using this
   refine ⟨_,rfl,?_⟩
   rw [cS (aC (aS rfl) (aC (aS rfl) rfl))]
   refine bb (yS h n hp' (by omega) w2 w4) ?_
   rintro _ M4 ⟨v,rfl,hv,p4,k4⟩
   refine ⟨t++[v],by rw [List.map_append];rfl,fun x hx=>?_,p4.mono (by omega),hk'.trans k4⟩
   rcases List.mem_append.mp hx with z|z
   ·exact ht x z
   ·rw [List.mem_singleton.mp z];exact hv
  ·rintro acc M' hl ⟨t,rfl,ht,hp',hk'⟩
   simp only [List.length_map,List.length_range] at hl hp'
   exact bW.mpr ⟨aJ (by rw [List.length_map];omega),_,rfl,aJ (n:=5) (by decide),.join at_ other t (1+price),rfl,⟨ha,ho,⟨hl,ht⟩,co⟩,hp'.mono (by omega),hk'⟩
theorem w6 (n:Nat){p B W Pl mo:Nat}(hp:aO M p B)(hB:B<=700000)(W2:2<=W)(W4:W<=4)(P1:1<=Pl)(P2:Pl<=2)(m1:1<=mo)(m6:mo<=6):aq (aw P (n+5) 34 [.cell p,nD W,nD Pl,nD mo] M) fun d M'=>∃m:bq,d=m.d/\cB m/\m.words<=W/\m.places<=Pl/\m.deeds.length<=mo/\aO M' p (B+300)/\bE p M M':=by
 refine aM h.law_machine rfl ?_
 show aq (fL (aw P (n+4)) [some (.cell p),some (nD W),some (nD Pl),some (nD mo),none,none,none,none] M) _
 unfold fL
 have plus:∀{Z:Env}{M:Mem}{g:GE}{B c many:Nat}{rest:GS}{K:Fl->Mem->Prop}{i:Nat},Z[0]?.getD none=some (.cell p)->g Z M=.ok (nD many) M->aO M p B->B<=1000000->0<many->many<=10000000->(∀(v:Nat) (M':Mem),v<many->aO M' p (B+1)->bE p M M'->aq (rest (Z.set i (some (nD (c+v)))) M') K)->aq (ah (aP (.one i) (aA false .add (gC (.int (c:Int))) (ax 31 (aw P (n+4)) (aa (af 0) (aa g aj))))) rest Z M) K:=by
  intro Z M g B c many rest K i e0 eg hp hB h0 h1 hk
  refine fm (k:=fun d M'=>∃v:Nat,d=nD (c+v)/\v<many/\aO M' p (B+1)/\bE p M M') ?_ ?_
  ·rw [dv]
   simp only [cZ]
   refine bb (je h (n+2) (many:=many) e0 eg hp hB h0 h1) ?_
   rintro _ M2 ⟨v,rfl,hv,q,kk⟩
   exact gV.mpr ⟨v,by show D.int ((c:Int)+(v:Int))=D.int ((c+v:Nat):Int);rw [Int.natCast_add],hv,q,kk⟩
  ·rintro _ M' ⟨v,rfl,a,b,c⟩
   exact hk v M' a b c
 refine plus (c:=2) (many:=W-1) rfl (Fn (c:=1) (aS rfl) (by omega)) hp (tqh hB (by decide)) (by omega) (by omega) fun w M1 hw q1 k1=>?_
 refine plus (c:=1) (many:=Pl) rfl (aS rfl) q1 (bd (k:=1) hB (by decide)) P1 (tqh P2 (tqq rfl)) fun pl M2 hpl q2 k2=>?_
 have pl2:p<M2.length:=q2.lt
 have K2:=k1.trans k2
 have ML:M.length<=M2.length:=K2.len
 have w2:2<=2+w:=Nat.le_add_right _ _
 have w4:2+w<=4:=by omega
 have l1:1<=1+pl:=Nat.le_add_right _ _
 have l2:1+pl<=2:=by omega
 generalize hW:2+w=w' at w2 w4
 generalize hP:1+pl=p' at l1 l2
 refine fm (k:=fun d M'=>d=.cell M2.length/\M'=M2++[[]]) ?_ ?_
 ·simp only [lH,bB]
  exact wm.mpr ⟨Nat.zero_le _,rfl,rfl⟩
 rintro _ _ ⟨rfl,rfl⟩
 show aq (ah _ _ [some (.cell p),some (nD w'),some (nD p'),some (nD mo),some (.cell M2.length),none,none,none] (M2++[[]])) _
 simp only [aN,gJ,iO,dv,cZ]
 refine bb (je h (n+2) (many:=mo) rfl rfl q2.app (bd (k:=2) hB (by decide)) m1 (tqh m6 (tqq rfl))) ?_
 rintro _ M3 ⟨many,rfl,hmany,q3,k3⟩
 have e3:M3[M2.length]?=some []:=k3.get (List.getElem?_concat_length) (by omega)
 have K3:bE p M M3:=K2.trans (bE.app.trans k3)
 generalize hq:M2.length=q at *
 refine gV.mpr ⟨_,rfl,⟨by omega,by omega⟩,?_⟩
 rw [show (1+(many:Int)).toNat=1+many by omega]
 refine eF (ds:=(List.range (1+many)).map fun (k:Nat)=>D.int (k:Int)) (fun i Z M'=>∃ds:List bt,M'[q]?=some (ds.map bt.d)/\ds.length=i/\(∀d∈ds,cX w' p' d)/\aO M' p (B+3+i*45)/\bE p M M'/\∃a b c,Z=[some (.cell p),some (nD w'),some (nD p'),some (nD mo),some (.cell q),a,b,c])
  (fun _ _ _ _=>rfl) ⟨[],e3,rfl,(fun _ hd=>nomatch hd),q3,K3,none,none,none,rfl⟩ ?_ ?_
 ·rintro i d Z M' hd ⟨ds,e4,hl,hds,q4,K4,a,b,c,rfl⟩
  have hi:i<1+many:=by
   have:=(List.getElem?_eq_some_iff.mp hd).1
   simpa using this
  have hi6:i<=5:=by omega
  have hB4:B+3+i*45<=700228:=by omega
  have hqM:M.length<=q:=ML
  have hpq:p<q:=pl2
  refine ⟨_,rfl,?_⟩
  refine fB h (n+2) (many:=5) rfl rfl q4 (tqh hB4 (by decide)) (by decide) (by decide) fun again M5 ha q5 k5=>?_
  have e5:=k5.get e4 (Nat.ne_of_gt hpq)
  refine fm (k:=fun d M'=>∃e:bt,d=e.d/\cX w' p' e/\aO M' p (B+3+i*45+41)/\bE p M5 M') ?_ ?_
  ·rw [cS (aC (aS rfl) (aC (aS rfl) (aC (aS rfl) rfl)))]
   exact bb (AZ h n (w:=w') (pl:=p') q5 (bd (k:=1) hB4 (by decide)) w2 w4 l1 l2) fun d M' ⟨e,a,b,c,d⟩=>⟨e,a,b,c,d⟩
  rintro _ M6 ⟨e,rfl,he,q6,k6⟩
  have e6:=k6.get e5 (Nat.ne_of_gt hpq)
  have K6:=(K4.trans k5).trans k6
  have hsm:(ds.map bt.d).length<sz:=Nat.lt_of_le_of_lt (show (ds.map bt.d).length<=50 by rw [List.length_map,hl];omega) (by decide)
  have fin:∀(e:bt) (M'':Mem) (x5 x6:Option D),cX w' p' e->M''[q]?=some (ds.map bt.d)->aO M'' p (B+3+(i+1)*45)->bE p M M''->
   aq (ah (iH (af 4) (af 7)) av [some (.cell p),some (nD w'),some (nD p'),some (nD mo),some (.cell q),x5,x6,some e.d] M'') fun fl M'=>∃ρ',fl=.next ρ'/\∃ds:List bt,M'[q]?=some (ds.map bt.d)/\ds.length=i+1/\(∀d∈ds,cX w' p' d)/\aO M' p (B+3+(i+1)*45)/\bE p M M'/\∃a b c,ρ'=[some (.cell p),some (nD w'),some (nD p'),some (nD mo),some (.cell q),a,b,c]:=by
   intro e M'' x5 x6 he e7 q7 K7
   simp only [aN,uM,bf]
   refine ⟨_,rfl,_,rfl,q,ds.map bt.d,rfl,e7,hsm,_,rfl,ds++[e],?_,by rw [List.length_append,hl];rfl,fun d hd=>?_,q7.setq hpq,K7.setq hqM,_,_,_,rfl⟩
   ·rw [List.getElem?_set_self (List.getElem?_eq_some_iff.mp e7).1,List.map_append];rfl
   ·rcases List.mem_append.mp hd with z|z
    ·exact hds d z
    ·rw [List.mem_singleton.mp z];exact he
  show aq (ah _ _ [some (.cell p),some (nD w'),some (nD p'),some (nD mo),some (.cell q),some d,some (nD again),some e.d] M6) _
  have en:(aG (aW .ne (af 4) (ba false aj)):GT) [some (.cell p),some (nD w'),some (nD p'),some (nD mo),some (.cell q),some d,some (nD again),some e.d] M6=.ok (!ds.isEmpty) M6:=by
   refine eA ?_
   unfold aW
   show (dg M6 (bU .ne (.cell q) (.lst []) M6)).bind _=_
   rw [ne_nil e6];rfl
  refine di (sj (kj (c:=0) rfl) en) (fun cc=>?_) fun _=>fin e M6 _ _ he e6 (q6.mono (by omega)) K6
  have hpos:0<ds.length:=by
   rw [Bool.and_eq_true] at cc
   cases ds with
   |nil=>exact absurd cc.2 (by decide)
   |cons _ _=>exact Nat.succ_pos _
  simp only [aN,fZ,dv,mS,g8,g7,bc,bB,yj,cZ]
  have el:bD .len (aa (af 4) aj) [some (.cell p),some (nD w'),some (nD p'),some (nD mo),some (.cell q),some d,some (nD again),some e.d] M6=.ok (nD ds.length) M6:=by
   refine aF ?_
   simp only [fg,bc,bB,bf]
   exact ⟨_,rfl,BM.mpr ⟨_,e6,by rw [List.length_map],rfl⟩⟩
  show aq (ax 31 (aw P (n+4)) (aa (af 0) (aa (bD .len (aa (af 4) aj)) aj)) [some (.cell p),some (nD w'),some (nD p'),some (nD mo),some (.cell q),some d,some (nD again),some e.d] M6) _
  refine bb (je h (n+2) (many:=ds.length) rfl el q6 (bd (k:=41) hB4 (by decide)) hpos (by omega)) ?_
  rintro _ M7 ⟨v,rfl,hv,q7,k7⟩
  have e7:=k7.get e6 (Nat.ne_of_gt hpq)
  refine ⟨(ds.getD v e).d,?_,1,rfl,rfl,rfl,?_⟩
  ·show (M7[q]?).bind (fun ds=>(bR ds.length (v:Int)).bind fun j=>ds[j]?)=_
   rw [e7]
   show (bR (ds.map bt.d).length (v:Int)).bind (fun j=>(ds.map bt.d)[j]?)=_
   rw [fG (by rw [List.length_map];exact hv)]
   simp [List.getD_eq_getElem?_getD,hv]
  ·refine bb (Cd (d:=ds.getD v e) (c:=e.cost) (k:=fun x M'=>aq (ah (iH (af 4) (af 7)) av [some (.cell p),some (nD w'),some (nD p'),some (nD mo),some (.cell q),some d,some (nD again),some x] M') fun fl M'=>∃ρ',fl=.next ρ'/\∃ds:List bt,M'[q]?=some (ds.map bt.d)/\ds.length=i+1/\(∀d∈ds,cX w' p' d)/\aO M' p (B+3+(i+1)*45)/\bE p M M'/\∃a b c,ρ'=[some (.cell p),some (nD w'),some (nD p'),some (nD mo),some (.cell q),a,b,c]) ?_) fun x1 M3 hx=>⟨1,rfl,nD e.cost,zR,aJ (n:=1) (by decide),hx⟩
   exact fin _ M7 _ _ (AB (hds _ (getD_mem hv)) (EW he)) e7 (q7.mono (by omega)) (K6.trans k7)
 ·rintro Z M' ⟨ds,e4,hl,hds,q4,K4,a,b,c,rfl⟩
  simp only [List.length_map,List.length_range] at hl q4
  refine kK ?_
  simp only [g7,bc,bB,fg,bf]
  refine ⟨_,rfl,_,rfl,_,rfl,wY.mpr ⟨_,e4,aJ (n:=3) (by decide),⟨w',p',ds⟩,rfl,⟨w2,w4,l1,l2,?_,?_,hds⟩,?_,?_,?_,q4.mono (by omega),K4⟩⟩
  ·show 1<=ds.length;omega
  ·show ds.length<=6;omega
  ·show w'<=W;omega
  ·show p'<=Pl;omega
  ·show ds.length<=mo;omega
theorem Dp (h35:P 35=some ⟨3,6,hJ⟩)(n:Nat){p B mo:Nat}{m:bq}(hm:cB m)(hp:aO M p B)(hB:B<=700000)(hmo:mo<=40):aq (aw P (n+3) 35 [.cell p,m.d,nD mo] M) fun d M'=>∃r:List Nat,d=.lst (r.map nD)/\lL m r/\r.length<=mo/\aO M' p (B+50)/\bE p M M':=by
 refine aM h35 rfl ?_
 have d1:=hm.d1
 have d6:=hm.d6
 simp only [hJ,aN,fZ,ff,bc,bB,cZ,bf,JI]
 simp only [Option.some.injEq,exists_eq_left',List.getElem?_cons_zero,List.getElem?_cons_succ,Option.getD_some,List.map_cons,List.map_nil,List.cons_append,List.nil_append,nD]
 refine tk h n (many:=4) hp (by omega) (by omega) (by omega) fun kind M1 hk q1 k1=>?_
 simp [nD]
 have core:∀(many:Nat) (M2:Mem),many<=mo->aO M2 p (B+2)->bE p M M2->aq (d3 (d5 (dN.one 0) (cw (ax 31 (aw P (n+2)) (aa (af 1) (aa (bD vH.len (aa (aQ (af 2) (gC (D.int 2))) aj)) aj))))
  [none,some (D.cell p),some m.d,some (D.int mo),some (D.int kind),some (D.int many),none]) (fun x=>some (List.map (fun k:Nat=>D.int k) (List.range many))) [] M2) fun acc M_2=>acc.length<=sz/\
   ((¬(kind : Int) = 1 /\ ∃ r, acc = List.map nD r /\ lL m r /\ r.length <= mo /\ aO M_2 p (B + 50) /\ bE p M M_2) \/ (kind : Int) = 1 /\ cy false D.non = true /\ cy true (D.int 2) = true /\
     aq (eK false (D.lst acc) D.non (D.int 2) M_2) fun x_1 M_3=>aq (fH false ph.mul x_1 (D.int many) M_3) fun x_2 M_4=>cy false D.non=true/\cy true (D.int many)=true/\
      aq (eK false x_2 D.non (D.int many) M_4) fun d M'=>∃r,d=D.lst (List.map nD r)/\lL m r/\r.length<=mo/\aO M' p (B+50)/\bE p M M'):=by
  intro many M2 hmany q2 k2
  refine comp_map (ds:=(List.range many).map fun (k:Nat)=>D.int (k:Int)) (fun i acc M'=>∃t:List Nat,acc=t.map nD/\(∀x∈t,x<m.deeds.length)/\aO M' p (B+2+i)/\bE p M M') (aJ (by simp;omega)) (fun _ _ _ _=>rfl) ⟨[],rfl,by simp,q2,k2⟩ ?_ ?_
  ·rintro i d acc M' hd _ ⟨t,rfl,ht,hp',hk'⟩
   have hi:i<many:=by
    have:=(List.getElem?_eq_some_iff.mp hd).1
    simpa using this
   refine ⟨_,rfl,?_⟩
   simp [-jz,Kw]
   refine tk h n hp' (by omega) (by omega) (by omega) fun v M4 hv p4 k4=>⟨t++[v],by simp,fun x hx=>?_,p4.mono (by omega),hk'.trans k4⟩
   rcases List.mem_append.mp hx with z|z
   ·exact ht x z
   ·simp at z;omega
  ·rintro acc M' hl ⟨t,rfl,ht,hp',hk'⟩
   simp at hl
   have P50:aO M' p (B+50):=hp'.mono (by simp;omega)
   refine ⟨aJ (by simp;omega),?_⟩
   by_cases c1:kind=1
   ·refine .inr ⟨by omega,rfl,rfl,(uF (a:=2)).mpr ⟨aJ (by simp;omega),Hu.mpr ⟨⟨?_,by omega,by omega⟩,bW.mpr ⟨?_,rfl,rfl,uF.mpr ⟨?_,?_⟩⟩⟩⟩⟩
    ·refine tqh (Nat.mul_le_mul (show _<=2 by simp;omega) (show _<=40 by omega)) (by decide)
    ·rw [Int.toNat_natCast]
     simp
     exact tqh (Nat.mul_le_mul (show many<=40 by omega) (show min 2 t.length<=2 by omega)) (by decide)
    ·exact aJ (by simp;omega)
    ·rw [Int.toNat_natCast]
     refine ⟨((List.replicate many (t.take 2)).flatten).take many,by simp [List.map_flatten,List.map_take],⟨by simp;omega,fun i hi=>?_⟩,by simp;omega,P50,hk'⟩
     have:=List.mem_of_mem_take hi
     simp only [List.mem_flatten,List.mem_replicate] at this
     obtain ⟨l,⟨_,rfl⟩,hl2⟩:=this
     exact ht i (List.mem_of_mem_take hl2)
   ·exact .inl ⟨by omega,t,rfl,⟨by omega,ht⟩,by omega,P50,hk'⟩
 by_cases c0:kind=0
 ·exact .inr ⟨c0,by omega,core mo M1 (tqg _) (q1.mono (by omega)) k1⟩
 ·refine .inl ⟨c0,?_⟩
  rw [show ((mo:Int)+1)=((mo+1:Nat):Int) by omega]
  refine tk h n q1 (by omega) (by omega) (by omega) fun many M2 hmany q2 k2=>⟨many,rfl,⟨by omega,by omega⟩,?_⟩
  exact core many M2 (by omega) q2 (k1.trans k2)
end
end LD
namespace LD
open PySem
theorem Dy {xs:List D}{a b:Nat}{M:Mem}{k:D->Mem->Prop}:aq (eK false (.frz xs) (.int a) (.int b) M) k↔(cut xs (min a xs.length) (min b xs.length)).length<=sz/\k (.lst (cut xs (min a xs.length) (min b xs.length))) M:=by
 show aq (match a8 xs.length 0 (.int a),a8 xs.length xs.length (.int b) with|some l,some h=>bQ false (cut xs l h) M|_,_=>.bad) k↔_
 have e1:a8 xs.length 0 (.int a)=some (min a xs.length):=by
  show some _=_
  rw [if_neg (by omega)];simp
 have e2:a8 xs.length xs.length (.int b)=some (min b xs.length):=by
  show some _=_
  rw [if_neg (by omega)];simp
 rw [e1,e2]
 exact bW
theorem A3 {xs:List D}{b:Nat}{M:Mem}{k:D->Mem->Prop}:aq (eK false (.frz xs) .non (.int b) M) k↔(cut xs 0 (min b xs.length)).length<=sz/\k (.lst (cut xs 0 (min b xs.length))) M:=by
 show aq (match a8 xs.length 0 D.non,a8 xs.length xs.length (.int b) with|some l,some h=>bQ false (cut xs l h) M|_,_=>.bad) k↔_
 have e2:a8 xs.length xs.length (.int b)=some (min b xs.length):=by
  show some _=_
  rw [if_neg (by omega)];simp
 rw [e2]
 exact bW
theorem wN {α β:Type}(f:α->β)(l:List α)(a b:Nat):cut (l.map f) a b=(cut l a b).map f:=by simp [cut,List.map_take,List.map_drop]
theorem rZ {α:Type}(l:List α)(a b:Nat):(cut l a b).length<=l.length:=by simp [cut];omega
section
variable {P:Nat->Option Df}(h:HasP0 P){M:Mem}
include h
theorem Dr (n:Nat){ns:List Int}(hn:ns.length<=63):aq (aw P (n+1) 29 [.frz (ns.map D.int)] []) fun d M'=>d=.cell 1/\aO M' 1 0:=by
 refine aM h.law_open rfl ?_
 simp [jK,cy]
 refine (A3 (b:=12)).mpr ⟨?_,?_⟩
 ·exact aJ (tqh (rZ _ _ _) (by simp;omega))
 simp only [BL,wm]
 refine ⟨aJ (tqh (rZ _ _ _) (by simp;omega)),(Dy (a:=12) (b:=63)).mpr ⟨aJ (tqh (rZ _ _ _) (by simp;omega)),⟨rfl,rfl⟩,?_⟩⟩
 rw [wN,wN]
 simp only [List.length_map,List.length_nil,List.nil_append]
 have e63:min 63 ns.length=ns.length:=by omega
 rw [e63]
 refine eF (ds:=dD 0 ((cut ns (min 12 ns.length) ns.length).map D.int)) (fun i Z M'=>∃l:List Int,M'=[l.map D.int]/\l.length=min 12 ns.length/\∃a b,Z=[some (.frz (ns.map D.int)),some (.cell 0),a,b]) (fun _ _ _ _=>rfl) ⟨cut ns 0 (min 12 ns.length),rfl,by simp [cut],none,none,rfl⟩ ?_ ?_
 ·rintro i d Z M' hd ⟨l,rfl,hl,a,b,rfl⟩
  rw [fe,List.getElem?_map] at hd
  cases e:(cut ns (min 12 ns.length) ns.length)[i]? with
  |none=>rw [e] at hd;cases hd
  | some x =>
    rw [e] at hd
    have hd:D.tup [.int ((0+i:Nat):Int),.int x]=d:=Option.some.inj hd
    subst hd
    have hi:=(List.getElem?_eq_some_iff.mp e).1
    have hlen:12<ns.length:=by
     by_cases c:12<ns.length
     ·exact c
     ·have:min 12 ns.length=ns.length:=by omega
      rw [this] at hi
      simp [cut] at hi
    have l12:l.length=12:=by omega
    have r1:=Int.emod_nonneg (i:Int) (show (12:Int)≠0 by decide)
    have r2:=Int.emod_lt_of_pos (i:Int) (show (0:Int)<12 by decide)
    obtain ⟨y,ey⟩:=rQ (l:=l) r1 (by rw [l12];exact r2)
    obtain ⟨k,ek⟩:∃k:Nat,(i:Int) % 12=(k:Int):=⟨((i:Int) % 12).toNat,by omega⟩
    refine ⟨_,rfl,?_⟩
    simp
    rw [ek] at ey ⊢
    have hk:k<l.length:=by omega
    refine ⟨_,ey,?_⟩
    simp only [gV]
    refine ⟨l.map D.int,rfl,k,?_,l.set k (y+x),?_,by simp [hl]⟩
    ·simpa using fG hk
    ·simp [List.map_set]
 ·rintro Z M' ⟨l,rfl,hl,a,b,rfl⟩
  simp
  exact ⟨by decide,⟨0,l,0,0,rfl,rfl,by decide,by decide,by decide,by decide⟩⟩
end
end LD
namespace LD
open PySem
theorem Sub.pen {p B:Nat}{M M':Mem}(h:Sub M M')(hp:aO M p B):aO M' p B:=by
 obtain ⟨c,cells,a,st,e1,e2,r⟩:=hp.ex
 exact ⟨c,cells,a,st,h.get e1,h.get e2,r⟩
end LD
namespace LD
open PySem
structure mZ (P:Nat->Option Df):Prop where
 same:P 40=some ⟨2,2,dQ⟩
theorem so:∀ds:List D,j4 ds ds=ds.map fun d=>.tup [d,d]
 |[]=>rfl
 |d::r=>by simp [j4,so r]
theorem xF {ds:List D}{M:Mem}:bU .notin (.bl false) (.lst (ds.map fun _=>.bl true)) M=some true:=by
 show ((cL M (.lst (ds.map fun _=>.bl true))).bind (jc (view M (.bl false)))).map (!·)=_
 show (jc (.bl false) (ds.map fun _=>.bl true)).map (!·)=_
 unfold jc
 rw [if_pos]
 ·have:(ds.map fun _=>D.bl true).any (fun y=>bH y (.bl false))=false:=by
   rw [List.any_eq_false];intro x hx;obtain ⟨_,_,rfl⟩:=List.mem_map.mp hx;simp [bH]
  rw [this];rfl
 ·simp [aK]
@[simp] theorem BK {m:Bool}{ds:List D}{M:Mem}{k:D->Mem->Prop}:aq (gM (.list m) [.tup ds] M) k↔aq (bQ m ds M) k:=Iff.rfl
theorem cO {x y:Str}{b:Bool}(e:qQ (.str x) (.str y)=some b)(M:Mem):bU .eq (.str x) (.str y) M=some b:=by
 show mi M (.str x) (.str y)=some b
 unfold mi
 rw [show qQ (view M (.str x)) (view M (.str y))=some b from e]
def uJ (c:Call):GS:=ah (aZ (aG (aW .ne (bD .len (aa (af 0) aj)) (bD .len (aa (af 1) aj)))) rF av) (ah (aY (aW .notin wG (cv false 2 (.tup [0,1]) (oB (af 0) (af 1)) (cw (ax 40 c (aa (af 0) (aa (af 1) aj))))))) av)
section
variable {P:Nat->Option Df}(h:mZ P){M:Mem}
include h
theorem y8 (n:Nat){x y:D}{ds:List D}{Z:Env}{kl:List D->Mem->Prop}(hx:cL M x=some ds)(hy:cL M y=some ds)(hz:ds.length<=sz)(hs:∀d∈ds,aw P n 40 [d,d] M=.ok (.bl true) M)(hk:kl (ds.map fun _=>.bl true) M) :
 aq (d3 (d5 (.tup [0,1]) (cw (ax 40 (aw P n) (aa (af 0) (aa (af 1) aj)))) (none::none::Z)) (oi x y) [] M) kl:=by
 refine nZ (ds:=ds.map fun d=>.tup [d,d]) (fun _=>.bl true) (by simpa using hz) ?_ ?_ ?_
 ·simp [oi,hx,hy,so]
 ·intro d hd
  obtain ⟨e,he,rfl⟩:=List.mem_map.mp hd
  refine ⟨_,rfl,?_⟩
  refine aF ?_
  simp
  rw [hs e he]
  exact ⟨rfl,rfl⟩
 ·simpa [Function.comp_def] using hk
theorem A6 (n:Nat){x y:D}{ds:List D}(hx:cL M x=some ds)(hy:cL M y=some ds)(lx:gM .len [x] M=.ok (.int ds.length) M)(ly:gM .len [y] M=.ok (.int ds.length) M)(sx:eE x=true)(sy:eE y=true)(hz:ds.length<=sz)(hs:∀d∈ds,aw P n 40 [d,d] M=.ok (.bl true) M) :
 aq (uJ (aw P n) [some x,some y] M) (jA fun d M'=>d=.bl true/\M'=M):=by
 simp [uJ,lx,ly,sx,sy]
 exact y8 h n hx hy hz hs ⟨by simpa using hz,xF,rfl⟩
end
end LD
namespace LD
open PySem
section
variable {Z:Env}{M:Mem}{a b d:GE}{k:D->Mem->Prop}{kw:Walk->Mem->Prop}{kf:Fl->Mem->Prop}
@[simp] theorem MD:aq (yc a b d Z M) kw↔aq (a Z M) fun x M=>aq (b Z M) fun y M=>aq (d Z M) fun z M=>(eE x&&eE y&&eE z)=true/\kw (Cs x y z) M:=by
 simp only [yc,bL];refine iff_of_eq ?_;congr 1;funext x M;congr 1;funext y M;congr 1;funext z M;split<;>simp_all
@[simp] theorem JH {m:Bool}:aq (pT m a Z M) k↔aq (a Z M) fun x M=>aq (xb m x M) k:=by simp [pT]
@[simp] theorem Mx {m:Bool}{xs:List D}:aq (xb m (.lst xs) M) k↔aq (bQ m xs.reverse M) k:=Iff.rfl
@[simp] theorem DJ {m:Bool}{xs:List D}:aq (xb m (.tup xs) M) k↔k (.tup xs.reverse) M:=Iff.rfl
theorem Et {t:dN}{w:Walk}{gb:GS}{ds:List D}(I:Nat->Env->Mem->Prop)(R:D->Mem->Prop)(hw:∀i Z M,I i Z M->w M=some ds)(hwR:∀d M,R d M->w M=some ds)(h0:I 0 Z M)
 (hs:∀i d Z M,ds[i]?=some d->I i Z M->∃ρ1,dw t d Z=some ρ1/\aq (gb ρ1 M) fun fl M=>(∃ρ',fl=.next ρ'/\I (i+1) ρ' M)\/∃d,fl=.ret d/\R d M) (hk:∀Z M,I ds.length Z M->kf (.next Z) M) (hr:∀d M,R d M->kf (.ret d) M) :
 aq (d3 (iQ t gb) w (.next Z) M) kf:=by
 refine iE (fun i fl M=>(∃Z,fl=.next Z/\I i Z M)\/∃d,fl=.ret d/\R d M) (fun i fl M h=>h.elim (fun ⟨Z,_,h⟩=>hw i Z M h) fun ⟨d,_,h⟩=>hwR d M h) (.inl ⟨Z,rfl,h0⟩) ?_ ?_
 ·rintro i d fl M hd (⟨Z,rfl,hI⟩|⟨d',rfl,hR⟩)
  ·obtain ⟨ρ1,e,h⟩:=hs i d Z M hd hI
   simp only [iQ,bL,kQ,e]
   exact ⟨ρ1,rfl,h⟩
  ·exact .inr ⟨d',rfl,hR⟩
 ·rintro fl M (⟨Z,rfl,hI⟩|⟨d,rfl,hR⟩)
  ·exact hk Z M hI
  ·exact hr d M hR
end
structure Mp (P:Nat->Option Df):Prop where
 h15:P 15=some ⟨1,6,dF⟩
 h27:P 27=some ⟨2,2,dB⟩
 h46:P 46=some ⟨2,2,fO⟩
 parted:P 48=some ⟨3,8,Cm⟩
end LD
namespace LD
open PySem
theorem v8 {xs:List D}{a:Nat}{M:Mem}{k:D->Mem->Prop}:aq (eK false (.lst xs) .non (nD a) M) k↔(xs.take a).length<=sz/\k (.lst (xs.take a)) M:=uF
end LD
namespace LD
open PySem
abbrev Cp:=List Nat×List Nat
structure Kx where
 place:Nat
 num:Nat
 back:Bool
def Kx.d (s:Kx):D:=.tup [nD s.place,nD s.num,.bl s.back]
def Cp.way (r:Cp)(b:Bool):Cp:=if b then (r.2,r.1) else r
end LD
namespace LD
open PySem
theorem sY {tg:dN}{w:Walk}{gc:GT}{ge:GE}{ds:List D}{ρ0:Env}{M:Mem}{kl:List D->Mem->Prop}(f:D->Bool)(g:D->D)(hz:ds.length<=sz)(hw:w M=some ds)
 (hs:∀d∈ds,∃ρ1,dw tg d ρ0=some ρ1/\gc ρ1 M=.ok (f d) M/\(f d=true->ge ρ1 M=.ok (g d) M)) (hk:kl ((ds.filter f).map g) M):aq (d3 (d5 tg (oX gc (cw ge)) ρ0) w [] M) kl:=by
 refine iE (fun i acc M'=>M'=M/\acc=((ds.take i).filter f).map g) (fun i acc M' h=>by rw [h.1];exact hw) ⟨rfl,rfl⟩ ?_ ?_
 ·rintro i d acc M' hd ⟨rfl,rfl⟩
  obtain ⟨ρ1,e1,e2,e3⟩:=hs d (List.mem_of_getElem? hd)
  have hi:i<ds.length:=(List.getElem?_eq_some_iff.mp hd).1
  simp only [d5,e1,Bu,Res.bind_ok,oX,e2]
  rw [List.take_succ,hd]
  cases q:f d with
  | false =>
    simp [q]
  | true =>
    rw [if_pos rfl]
    have len:(((ds.take i).filter f).map g).length<=i:=by
     rw [List.length_map]
     exact tqh (List.length_filter_le _ _) (by simp;omega)
    simp only [cw,e3 q,Res.bind_ok]
    rw [if_pos (by omega)]
    simp [q]
 ·rintro acc M' ⟨rfl,rfl⟩
  simpa using hk
theorem qc (M:Mem):∀(n k:Nat) (d:D),aK k d=true->cP n M d=d
 |0,_,_,_=>rfl
 | n + 1, k, d, h => by
   have all:∀(k:Nat) (ds:List D),ds.all (aK k)=true->ds.map (cP n M)=ds:=fun k ds hp=>by
    rw [List.all_eq_true] at hp
    conv=>rhs;rw [<- List.map_id ds]
    exact List.map_congr_left fun d hd=>qc M n k d (hp d hd)
   cases d with
   | tup ds =>
     cases k with
     |zero=>simp [aK] at h
     |succ k=>exact congrArg D.tup (all k ds (by simpa [aK] using h))
   | lst ds =>
     cases k with
     |zero=>simp [aK] at h
     |succ k=>exact congrArg D.lst (all k ds (by simpa [aK] using h))
   |frz ds=>cases k<;>simp [aK] at h
   |cell q=>cases k<;>simp [aK] at h
   |fn f=>cases k<;>simp [aK] at h
   |exc y p=>cases k<;>simp [aK] at h
   |_=>rfl
end LD
namespace LD
open PySem
structure mY (P:Nat->Option Df):Prop where
 whole:P 67=some ⟨1,1,jl⟩
 is_in:P 68=some ⟨3,3,lh⟩
 numbers:P 69=some ⟨4,4,hU⟩
 is_deed:P 70=some ⟨3,3,bC⟩
 is_machine:P 71=some ⟨1,1,eC⟩
def qb:D->Bool
 |.int _=>true
 |_=>false
theorem eq_empty {l:List D}{M:Mem}(hp:l.all (aK 63)=true):bU .eq (.lst l) (.lst []) M=some l.isEmpty:=by
 refine sd hp rfl ?_
 cases l<;>rfl
theorem qO (f:D->Bool):∀ds:List D,((ds.filter fun d=>!f d).map fun _=>D.int 1).isEmpty=ds.all f
 |[]=>rfl
 | d :: r => by
   have ih:=qO f r
   cases q:f d with
   |true=>simpa [q] using ih
   |false=>simp [q]
theorem rH {w:GW}{gc:GT}{Z:Env}{M:Mem}{ds:List D}{k:D->Mem->Prop}(f:D->Bool)(hw:aq (w Z M) fun wk M'=>M'=M/\wk M=some ds)(hz:ds.length<=sz)(he:∀d∈ds,gc (some d::Z) M=.ok (!f d) M)(hk:k (.bl (ds.all f)) M) :
 aq (aW .eq (cv false 1 (.one 0) w (oX gc (cw (gI 1)))) (ba false aj) Z M) k:=by
 simp only [jf,jW,lH,bB,bW]
 refine bb hw fun wk M' ⟨e1,e2⟩=>?_
 subst e1
 refine sY (fun d=>!f d) (fun _=>.int 1) hz e2 (fun d hd=>⟨some d::Z,rfl,he d hd,fun _=>rfl⟩) ?_
 refine ⟨tqh (by rw [List.length_map];exact List.length_filter_le _ _) hz,aJ (by decide),_,eq_empty ?_,?_⟩
 ·rw [List.all_eq_true]
  intro x hx
  obtain ⟨_,_,rfl⟩:=List.mem_map.mp hx
  rfl
 ·rw [qO];exact hk
section
variable {P:Nat->Option Df}(h:mY P){M:Mem}{k L:Nat}{d:D}
include h
theorem lu (n:Nat)(hd:Th k L d):aw P (n+1) 67 [d] M=.ok (.bl (qb d)) M:=by
 refine aF (aM h.whole rfl ?_)
 cases d with
 |fn j=>cases k<;>exact hd.elim
 |exc y p=>cases k<;>exact hd.elim
 |_=>exact dj rfl
theorem jN (n:Nat)(hd:Th k L d)(lo hi:Int):aw P (n+2) 68 [d,.int lo,.int hi] M=.ok (.bl (bg lo hi d)) M:=by
 refine aF (aM h.is_in rfl ?_)
 have e:ax 67 (aw P (n+1)) (aa (af 0) aj) [some d,some (.int lo),some (.int hi)] M=.ok (.bl (qb d)) M:=km rfl (lu h n (M:=M) hd)
 cases d with
 |fn j=>cases k<;>exact hd.elim
 |exc y p=>cases k<;>exact hd.elim
 |int i=>exact cR (gU e fun _=>Iy rfl rfl rfl) ⟨rfl,rfl⟩
 |_=>exact cR (gU (y:=false) e fun z=>by cases z) ⟨rfl,rfl⟩
def pN (many:Nat)(lo hi:Int):D->Bool
 |.tup ds=>ds.length==many&&ds.all (bg lo hi)
 |_=>false
theorem oo (n:Nat)(hd:Th k L d)(hL:L<=100){many:Nat}(lo hi:Int):aw P (n+3) 69 [d,nD many,.int lo,.int hi] M=.ok (.bl (pN many lo hi d)) M:=by
 refine aF (aM h.numbers rfl ?_)
 cases d with
 |fn j=>cases k<;>exact hd.elim
 |exc y p=>cases k<;>exact hd.elim
 | tup ds =>
   have ht:=hd.tup
   simp only [hU,aN,ql,cx,eW,uq,jP,tV,iP,AN,cZ,bf,vp,List.map_cons,List.map_nil,List.cons_append,List.nil_append,List.getElem?_cons_zero,List.getElem?_cons_succ,Option.getD_some,Option.some.injEq,exists_eq_left']
   refine ⟨true,rfl,true,rfl,?_⟩
   rw [if_neg (by decide)]
   refine jf.mpr (fg.mpr (bc.mpr (bf.mpr ⟨_,rfl,bB.mpr (oy.mpr (bf.mpr ⟨_,rfl,_,J1,_,rfl,?_⟩))⟩)))
   by_cases el:ds.length=many
   ·have e0:(!((ds.length:Int)==(many:Int)))=false:=by simp [el]
    rw [e0,if_neg (by decide)]
    refine rH (bg lo hi) (ds:=ds) (by simp;exact ⟨rfl,rfl⟩) (aJ (by omega)) (fun d hd=>aU (by simp [jN h n (ht.2 d hd)])) ?_
    exact ⟨by simp [pN,el],rfl⟩
   ·have e0:(!((ds.length:Int)==(many:Int)))=true:=by simp;omega
    rw [e0,if_pos (by decide)]
    exact ⟨by simp [pN,el],rfl⟩
 |_=>exact dj rfl
end
abbrev dI:List D:=[.str "turn",.str "join",.str "move",.str "put"]
theorem zE {k L:Nat}{x:D}{M:Mem}(hx:Th k L x)(hk:k<=60):bU .notin x (.tup dI) M=some (!(dI.any fun y=>bH y x)):=by
 have hp:aK 64 x=true:=(hx.mono (n':=64) (by omega) (tqg L)).pure
 have e:bU .notin x (.tup dI) M=((cL M (.tup dI)).bind (jc (view M x))).map (!·):=by cases x<;>rfl
 rw [e,hx.view]
 show Option.map _ (jc x dI)=_
 unfold jc
 rw [hp,show dI.all (aK 63)=true by decide +kernel]
 rfl
section
variable {P:Nat->Option Df}(h:mY P){M:Mem}{k L:Nat}{d:D}
include h
theorem zK (n:Nat){w p:Nat}{xs:List D}(hl:xs.length≠4/\xs.length≠5):aw P (n+4) 70 [.tup xs,nD w,nD p] M=.ok (.bl false) M:=by
 refine aF (aM h.is_deed rfl ?_)
 show aq (bC _ [some (.tup xs),some (nD w),some (nD p)] M) _
 unfold bC
 refine bI (aU ?_) rfl ⟨rfl,rfl⟩
 have e:bU .notin (.int xs.length) (.tup [.int 4,.int 5]) M=some true:=by
  show ((jc (.int xs.length) [.int 4,.int 5]).map (!·))=_
  have e1:bH (.int 4) (.int xs.length)=false:=by simp [bH];omega
  have e2:bH (.int 5) (.int xs.length)=false:=by simp [bH];omega
  show (some ([D.int 4,D.int 5].any fun y=>bH y (.int xs.length))).map (!·)=_
  simp [e1,e2]
 simp [bZ,e]
 exact aJ (by decide)
theorem xV (n:Nat){w p:Nat}{x:D}{xs:List D}(hx:Th k L x)(hk:k<=60)(hl:xs.length=3\/xs.length=4)(hn:(dI.any fun y=>bH y x)=false):aw P (n+4) 70 [.tup (x::xs),nD w,nD p] M=.ok (.bl false) M:=by
 refine aF (aM h.is_deed rfl ?_)
 show aq (bC _ [some (.tup (x::xs)),some (nD w),some (nD p)] M) _
 unfold bC
 have e:bU .notin (.int (x::xs).length) (.tup [.int 4,.int 5]) M=some false:=by
  show ((jc (.int (x::xs).length) [.int 4,.int 5]).map (!·))=_
  show (some ([D.int 4,D.int 5].any fun y=>bH y (.int (x::xs).length))).map (!·)=_
  rcases hl with e|e<;>simp [bH,e]
 have e2:=zE (M:=M) hx hk
 rw [hn] at e2
 refine aI (aU ?_) (bI (aU ?_) rfl ⟨rfl,rfl⟩)
 ·simp at e
  simp [bZ,e]
  exact aJ (by decide)
 ·simp [bR,e2]
  exact aJ (by decide)
theorem C5 (n:Nat){w p:Nat}{xs:List D}{a c:D}(hL1:L+1<=100)(i1:fo (.tup xs) (.int 1) M=some a)(il:fo (.tup xs) (.int (-1)) M=some c)(ha:Th k L a)(hc:Th k L c) :
 (eJ (bT (aG (ax 69 (aw P (n+3)) (aa (bh (aa (aQ (af 0) (gI 1)) aj)) (aa (gI 1) (aa (gI 0) (aa (aA false .sub (af 2) (gI 1)) aj))))))) (bT (aG (ax 68 (aw P (n+3)) (aa (aQ (af 0) (fT (gI 1))) (aa (gI 1) (aa (gI 3) aj)))))):GT) [some (.tup xs),some (nD w),some (nD p)] M=.ok (!(bg 0 ((p:Int)-1) a&&bg 1 3 c)) M:=by
 have q1:aw P (n+3) 69 [.tup [a],.int 1,.int 0,.int ((p:Int)-1)] M=.ok (.bl (pN 1 0 ((p:Int)-1) (.tup [a]))) M:=oo h n (d:=.tup [a]) (k:=k+1) (L:=L+1) (many:=1) (show [a].length<=L+1/\∀d∈[a],Th k (L+1) d from ⟨by simp,fun d hd=>by rw [List.mem_singleton.mp hd];exact ha.mono (tqg k) (Nat.le_succ L)⟩) hL1 0 _
 have q2:=jN h (n+1) (M:=M) hc 1 3
 have z1:1<=sz:=aJ (by decide)
 refine aU ?_
 simp [-jz,i1,il,q1,q2,z1,pN]
 cases bg 0 ((p:Int)-1) a<;>cases bg 1 3 c<;>simp
end
theorem Eh {M:Mem}:bU .notin (.str "turn") (.tup dI) M=some false:=by
 show (jc (.str "turn") dI).map (!·)=_
 decide +kernel
theorem Ej {M:Mem}:bU .notin (.str "join") (.tup dI) M=some false:=by
 show (jc (.str "join") dI).map (!·)=_
 decide +kernel
theorem Ei {M:Mem}:bU .notin (.str "move") (.tup dI) M=some false:=by
 show (jc (.str "move") dI).map (!·)=_
 decide +kernel
theorem Hd {M:Mem}:bU .notin (.str "put") (.tup dI) M=some false:=by
 show (jc (.str "put") dI).map (!·)=_
 decide +kernel
theorem CT {M:Mem}{x y:Bool}:bU .ne (.bl x) (.bl y) M=some (x != y):=by cases x<;>cases y<;>rfl
theorem HN {M:Mem}:bU .notin (.int 4) (.tup [.int 4,.int 5]) M=some false/\bU .notin (.int 5) (.tup [.int 4,.int 5]) M=some false:=⟨rfl,rfl⟩
section
variable {P:Nat->Option Df}(h:mY P){M:Mem}{k L:Nat}{d:D}
include h
theorem xU (n:Nat){w p:Nat}{a b c:D}(hL:L+1<=100)(ha:Th k L a)(hb:Th k L b)(hc:Th k L c):aw P (n+4) 70 [.tup [.str "turn",a,b,c],nD w,nD p] M=.ok (.bl (lr w p [a,b,c])) M:=by
 refine aF (aM h.is_deed rfl ?_)
 show aq (bC _ [some (.tup [.str "turn",a,b,c]),some (nD w),some (nD p)] M) _
 unfold bC
 have z2:2<=sz:=aJ (by decide)
 have z4:4<=sz:=aJ (by decide)
 have ej:=cO (x:="turn") (y:="join") (b:=false) (by decide +kernel) M
 have et:=cO (x:="turn") (y:="turn") (b:=true) (by decide +kernel) M
 have ep:=cO (x:="turn") (y:="put") (b:=false) (by decide +kernel) M
 have em:=cO (x:="turn") (y:="move") (b:=false) (by decide +kernel) M
 refine aI (by kernel_rfl) (aI (by kernel_rfl) ?_)
 have t3:=C5 h n (w:=w) (p:=p) (M:=M) (xs:=[.str "turn",a,b,c]) hL rfl rfl ha hc
 cases A:(bg 0 ((p:Int)-1) a&&bg 1 3 c) with
 | false =>
   rw [A] at t3
   refine bI t3 rfl ⟨?_,rfl⟩
   simp only [lr]
   rcases Bool.and_eq_false_iff.mp A with q|q<;>simp [q]
 | true =>
   rw [A] at t3
   simp only [Bool.and_eq_true] at A
   refine aI t3 ?_
   have q:=oo h n (M:=M) (many:=w) hb (by omega) 0 ((w:Int)-1)
   refine bI (v:=.bl (hZ w b)) (by kernel_rfl) (aF (by simp [bR,q];cases b<;>rfl)) ⟨?_,rfl⟩
   simp [lr,A.1,A.2]
theorem zI (n:Nat){w p:Nat}{a b c:D}(hL:L+1<=100)(ha:Th k L a)(hb:Th k L b)(hc:Th k L c):aw P (n+4) 70 [.tup [.str "put",a,b,c],nD w,nD p] M=.ok (.bl (nH w p [a,b,c])) M:=by
 refine aF (aM h.is_deed rfl ?_)
 show aq (bC _ [some (.tup [.str "put",a,b,c]),some (nD w),some (nD p)] M) _
 unfold bC
 have z2:2<=sz:=aJ (by decide)
 have z4:4<=sz:=aJ (by decide)
 have ej:=cO (x:="put") (y:="join") (b:=false) (by decide +kernel) M
 have et:=cO (x:="put") (y:="turn") (b:=false) (by decide +kernel) M
 have ep:=cO (x:="put") (y:="put") (b:=true) (by decide +kernel) M
 have em:=cO (x:="put") (y:="move") (b:=false) (by decide +kernel) M
 refine aI (by kernel_rfl) (aI (by kernel_rfl) ?_)
 have t3:=C5 h n (w:=w) (p:=p) (M:=M) (xs:=[.str "put",a,b,c]) hL rfl rfl ha hc
 cases A:(bg 0 ((p:Int)-1) a&&bg 1 3 c) with
 | false =>
   rw [A] at t3
   refine bI t3 rfl ⟨?_,rfl⟩
   simp only [nH]
   rcases Bool.and_eq_false_iff.mp A with q|q<;>simp [q]
 | true =>
   rw [A] at t3
   simp only [Bool.and_eq_true] at A
   refine aI t3 ?_
   have q:=jN h (n+1) (M:=M) hb 0 ((w:Int)-1)
   refine aI (by kernel_rfl) (bI (v:=.bl (bg 0 ((w:Int)-1) b)) (by kernel_rfl) (aF (by simp [bR,q])) ⟨?_,rfl⟩)
   simp [nH,A.1,A.2]
theorem xW (n:Nat){w p:Nat}{a b c:D}(hL:L+1<=100)(ha:Th k L a)(hb:Th k L b)(hc:Th k L c):aw P (n+4) 70 [.tup [.str "move",a,b,c],nD w,nD p] M=.ok (.bl (kd w p [a,b,c])) M:=by
 refine aF (aM h.is_deed rfl ?_)
 show aq (bC _ [some (.tup [.str "move",a,b,c]),some (nD w),some (nD p)] M) _
 unfold bC
 have z2:2<=sz:=aJ (by decide)
 have z4:4<=sz:=aJ (by decide)
 have ej:=cO (x:="move") (y:="join") (b:=false) (by decide +kernel) M
 have et:=cO (x:="move") (y:="turn") (b:=false) (by decide +kernel) M
 have ep:=cO (x:="move") (y:="put") (b:=false) (by decide +kernel) M
 have em:=cO (x:="move") (y:="move") (b:=true) (by decide +kernel) M
 refine aI (by kernel_rfl) (aI (by kernel_rfl) ?_)
 have t3:=C5 h n (w:=w) (p:=p) (M:=M) (xs:=[.str "move",a,b,c]) hL rfl rfl ha hc
 cases A:(bg 0 ((p:Int)-1) a&&bg 1 3 c) with
 | false =>
   rw [A] at t3
   refine bI t3 rfl ⟨?_,rfl⟩
   simp only [kd]
   rcases Bool.and_eq_false_iff.mp A with q|q<;>simp [q]
 | true =>
   rw [A] at t3
   simp only [Bool.and_eq_true] at A
   refine aI t3 ?_
   have q:=jN h (n+1) (M:=M) hb 0 ((p:Int)-1)
   refine aI (by kernel_rfl) (aI (by kernel_rfl) ?_)
   cases B:bg 0 ((p:Int)-1) b with
   | false =>
     rw [B] at q
     exact bI (aU (by simp [bR,q])) rfl ⟨by simp [kd,B],rfl⟩
   | true =>
     rw [B] at q
     refine aI (aU (by simp [bR,q])) (bI (by kernel_rfl) rfl ⟨?_,rfl⟩)
     simp [kd,A.1,A.2,B]
theorem xX (n:Nat){w p:Nat}{a b e c:D}(hL:L+1<=100)(ha:Th k L a)(hb:Th k L b)(he:Th k L e)(hc:Th k L c):aw P (n+4) 70 [.tup [.str "join",a,b,e,c],nD w,nD p] M=.ok (.bl (jH w p [a,b,e,c])) M:=by
 refine aF (aM h.is_deed rfl ?_)
 show aq (bC _ [some (.tup [.str "join",a,b,e,c]),some (nD w),some (nD p)] M) _
 unfold bC
 have z2:2<=sz:=aJ (by decide)
 have z4:4<=sz:=aJ (by decide)
 have ej:=cO (x:="join") (y:="join") (b:=true) (by decide +kernel) M
 have et:=cO (x:="join") (y:="turn") (b:=false) (by decide +kernel) M
 have ep:=cO (x:="join") (y:="put") (b:=false) (by decide +kernel) M
 have em:=cO (x:="join") (y:="move") (b:=false) (by decide +kernel) M
 refine aI (by kernel_rfl) (aI (by kernel_rfl) ?_)
 have t3:=C5 h n (w:=w) (p:=p) (M:=M) (xs:=[.str "join",a,b,e,c]) hL rfl rfl ha hc
 cases A:(bg 0 ((p:Int)-1) a&&bg 1 3 c) with
 | false =>
   rw [A] at t3
   refine bI t3 rfl ⟨?_,rfl⟩
   simp only [jH]
   rcases Bool.and_eq_false_iff.mp A with q|q<;>simp [q]
 | true =>
   rw [A] at t3
   simp only [Bool.and_eq_true] at A
   refine aI t3 ?_
   have q:=jN h (n+1) (M:=M) hb 0 ((p:Int)-1)
   refine aI (by kernel_rfl) (aI (by kernel_rfl) ?_)
   cases B:bg 0 ((p:Int)-1) b with
   | false =>
     rw [B] at q
     exact bI (aU (by simp [bR,q])) rfl ⟨by simp [jH,B],rfl⟩
   | true =>
     rw [B] at q
     refine aI (aU (by simp [bR,q])) (aI (by kernel_rfl) ?_)
     have e0:jH w p [a,b,e,c]=jJ w e:=by simp [jH,A.1,A.2,B]
     rw [e0]
     cases e with
     |fn j=>exact absurd he (by cases k<;>exact id)
     |exc y p=>exact absurd he (by cases k<;>exact id)
     | tup ds =>
       have ht:=he.tup
       by_cases el:ds.length=w
       ·refine aI (aU (by simp [bR,bZ,el])) ?_
        simp only [aN,cx]
        refine rH (hZ w) (ds:=ds) (by simp [bR];exact ⟨rfl,rfl⟩) (aJ (by omega)) (fun d hd=>aU (by
         have q:=oo h n (M:=M) (many:=w) (ht.2 d hd) (by omega) 0 ((w:Int)-1)
         have:pN w 0 ((w:Int)-1) d=hZ w d:=by cases d<;>rfl
         rw [this] at q
         simp [q])) ?_
        exact ⟨by simp [jJ,el],rfl⟩
       ·have:¬ ((ds.length:Int)=(w:Int)):=by omega
        exact bI (aU (by simp [bR,bZ,this])) rfl ⟨by simp [jJ,el],rfl⟩
     |_=>exact bI rfl rfl ⟨rfl,rfl⟩
omit h in
theorem zo {w p:Nat}{s:Str}{ds:List D}(hl:ds.length≠3/\ds.length≠4):cV w p s ds=false:=by
 have t:lr w p ds=false:=by
  match ds,hl with
  |[],_=>rfl
  |[_],_=>rfl
  |[_,_],_=>rfl
  |[_,_,_],hl=>simp at hl
  |_::_::_::_::_,_=>rfl
 have j:jH w p ds=false:=by
  match ds,hl with
  |[],_=>rfl
  |[_],_=>rfl
  |[_,_],_=>rfl
  |[_,_,_],_=>rfl
  |[_,_,_,_],hl=>simp at hl
  |_::_::_::_::_::_,_=>rfl
 have m:kd w p ds=false:=by
  match ds,hl with
  |[],_=>rfl
  |[_],_=>rfl
  |[_,_],_=>rfl
  |[_,_,_],hl=>simp at hl
  |_::_::_::_::_,_=>rfl
 have u:nH w p ds=false:=by
  match ds,hl with
  |[],_=>rfl
  |[_],_=>rfl
  |[_,_],_=>rfl
  |[_,_,_],hl=>simp at hl
  |_::_::_::_::_,_=>rfl
 unfold cV
 rw [t,j,m,u]
 split<;>first|rfl|(split<;>first|rfl|(split<;>first|rfl|(split<;>rfl)))
theorem lD (n:Nat){w p:Nat}{s:Str}{xs:List D}{bj:Bool}(hs:bU .notin (.str s) (.tup dI) M=some false)(ej:bU .eq (.str s) (.str "join") M=some bj)(hl:xs.length=3/\bj=true\/xs.length=4/\bj=false):aw P (n+4) 70 [.tup (.str s::xs),nD w,nD p] M=.ok (.bl false) M:=by
 refine aF (aM h.is_deed rfl ?_)
 show aq (bC _ [some (.tup (.str s::xs)),some (nD w),some (nD p)] M) _
 unfold bC
 have z2:2<=sz:=aJ (by decide)
 have z4:4<=sz:=aJ (by decide)
 rcases hl with ⟨e,rfl⟩|⟨e,rfl⟩
 ·refine aI (aU (by simp [bZ,e,HN.1,z2])) (bI (aU ?_) rfl ⟨rfl,rfl⟩)
  simp [bR,hs,z4,ej,CT,e]
 ·refine aI (aU (by simp [bZ,e,HN.2,z2])) (bI (aU ?_) rfl ⟨rfl,rfl⟩)
  simp [bR,hs,z4,ej,CT,e]
theorem zJ (n:Nat){w p:Nat}(hi:bZ .tuple d=some false):aw P (n+4) 70 [d,nD w,nD p] M=.ok (.bl false) M:=by
 refine aF (aM h.is_deed rfl ?_)
 show aq (bC _ [some d,some (nD w),some (nD p)] M) _
 unfold bC
 exact bI (aU (by simp [hi])) rfl ⟨rfl,rfl⟩
theorem yW (n:Nat){w p:Nat}(hd:Th k L d)(hk:k<=60)(hL:L+1<=100):aw P (n+4) 70 [d,nD w,nD p] M=.ok (.bl (fv w p d)) M:=by
 cases d with
 |fn j=>exact absurd hd (by cases k<;>exact id)
 |exc y p=>exact absurd hd (by cases k<;>exact id)
 | tup xs =>
   have ht:=hd.tup
   by_cases hl:xs.length≠4/\xs.length≠5
   ·rw [zK h n hl]
    cases xs with
    |nil=>rfl
    | cons x ds =>
      simp at hl
      cases x with
      |str s=>show _=Res.ok (D.bl (cV w p s ds)) M;rw [zo ⟨by omega,by omega⟩]
      |_=>rfl
   ·have hl:xs.length=4\/xs.length=5:=by omega
    cases xs with
    |nil=>simp at hl
    | cons x ds =>
      have hx:=ht.2 x List.mem_cons_self
      have hds:∀d∈ds,Th k L d:=fun d hd=>ht.2 d (List.mem_cons_of_mem _ hd)
      have hl:ds.length=3\/ds.length=4:=by simp at hl;omega
      by_cases hn:(dI.any fun y=>bH y x)=false
      ·rw [xV h n hx hk hl hn]
       cases x with
       | str s =>
         show _=Res.ok (D.bl (cV w p s ds)) M
         have q:∀z:Str,D.str z∈dI->¬ s=z:=fun z hz e=>by
          subst e
          rw [List.any_eq_false] at hn
          exact hn _ hz (by simp [bH])
         rw [uT (q _ (by simp)) (q _ (by simp)) (q _ (by simp)) (q _ (by simp))]
       |_=>rfl
      ·have hn:(dI.any fun y=>bH y x)=true:=(Bool.not_eq_false _).mp hn
       obtain ⟨z,hz,e⟩:=List.any_eq_true.mp hn
       have hx:∃s:Str,x=.str s/\D.str s∈dI:=by
        simp only [dI,List.mem_cons,List.not_mem_nil,or_false] at hz
        cases x<;>rcases hz with rfl|rfl|rfl|rfl<;>first|(simp [bH] at e;subst e;exact ⟨_,rfl,by simp⟩)|simp [bH] at e
       obtain ⟨s,rfl,hs⟩:=hx
       show _=Res.ok (D.bl (cV w p s ds)) M
       simp only [dI,List.mem_cons,List.not_mem_nil,or_false,D.str.injEq] at hs
       match ds,hds,hl with
       | [a, b, c], hds, _ =>
         simp only [List.mem_cons,List.not_mem_nil,or_false,forall_eq_or_imp,forall_eq] at hds
         rcases hs with rfl|rfl|rfl|rfl
         ·rw [nN];exact xU h n hL hds.1 hds.2.1 hds.2.2
         ·rw [nM];exact lD h n Ej (cO (by decide +kernel) M) (.inl ⟨rfl,rfl⟩)
         ·rw [nK];exact xW h n hL hds.1 hds.2.1 hds.2.2
         ·rw [nJ];exact zI h n hL hds.1 hds.2.1 hds.2.2
       | [a, b, e, c], hds, _ =>
         simp only [List.mem_cons,List.not_mem_nil,or_false,forall_eq_or_imp,forall_eq] at hds
         rcases hs with rfl|rfl|rfl|rfl
         ·rw [nN];exact lD h n Eh (cO (by decide +kernel) M) (.inr ⟨rfl,rfl⟩)
         ·rw [nM];exact xX h n hL hds.1 hds.2.1 hds.2.2.1 hds.2.2.2
         ·rw [nK];exact lD h n Ei (cO (by decide +kernel) M) (.inr ⟨rfl,rfl⟩)
         ·rw [nJ];exact lD h n Hd (cO (by decide +kernel) M) (.inr ⟨rfl,rfl⟩)
       |[],_,hl=>simp at hl
       |[_],_,hl=>simp at hl
       |[_,_],_,hl=>simp at hl
       |_::_::_::_::_::_,_,hl=>simp at hl
 |_=>exact zJ h n rfl
theorem sG (n:Nat)(hd:Th k L d)(hk:k<=60)(hL:L+1<=100):aw P (n+5) 71 [d] M=.ok (.bl (fu d)) M:=by
 refine aF (aM h.is_machine rfl ?_)
 show aq (eC _ [some d] M) _
 unfold eC
 by_cases hn:gr 3 d=false
 ·rw [vg hn]
  cases d with
  |fn j=>exact absurd hd (by cases k<;>exact id)
  |exc y p=>exact absurd hd (by cases k<;>exact id)
  | tup xs =>
    have:¬ ((xs.length:Int)=3):=by simp [gr] at hn;omega
    exact bI (aU (by simp [bZ,this])) rfl ⟨rfl,rfl⟩
  |_=>exact bI rfl rfl ⟨rfl,rfl⟩
 ·match d,hd,hn with
  | .tup [a, b, c], hd, _ =>
    have ht:=hd.tup.2
    simp only [List.mem_cons,List.not_mem_nil,or_false,forall_eq_or_imp,forall_eq] at ht
    have b1:=jN h (n+2) (M:=M) ht.1 2 4
    have b2:=jN h (n+2) (M:=M) ht.2.1 1 2
    show aq _ (jA fun x M'=>x=.bl (bg 2 4 a&&(bg 1 2 b&&(gv c&&(qI c).all (fv (eL a) (eL b)))))/\M'=M)
    cases c1:bg 2 4 a with
    | false =>
      rw [c1] at b1
      exact bI (aU (by simp [bZ,bR,b1])) rfl ⟨rfl,rfl⟩
    | true =>
      rw [c1] at b1
      refine aI (aU (by simp [bZ,bR,b1])) ?_
      cases c2:bg 1 2 b with
      | false =>
        rw [c2] at b2
        exact bI (aU (by simp [bR,b2])) rfl ⟨rfl,rfl⟩
      | true =>
        rw [c2] at b2
        obtain ⟨ea,_,_⟩:=oO c1 (by decide)
        obtain ⟨eb,_,_⟩:=oO c2 (by decide)
        by_cases hcc:∃ds,c=.tup ds
        ·obtain ⟨ds,rfl⟩:=hcc
         have hc:=ht.2.2.tup
         cases lb:gv (.tup ds) with
         | false =>
           refine bI (aU ?_) rfl ⟨rfl,rfl⟩
           simp [gv] at lb
           simp [bR,b2,bZ]
           omega
         | true =>
           refine aI (aU ?_) ?_
           ·simp [gv] at lb
            simp [bR,b2,bZ]
            omega
           ·simp only [aN,cx]
            refine rH (fv (eL a) (eL b)) (ds:=ds) (by simp [bR];exact ⟨rfl,rfl⟩) (aJ (by omega)) (fun d hd=>aU (by
             have q:=yW h n (w:=eL a) (p:=eL b) (M:=M) (hc.2 d hd) hk hL
             rw [<- ea,<- eb] at q
             simp [bR,q])) ?_
            exact ⟨by simp [qI],rfl⟩
        ·have e1:gv c=false:=by cases c<;>first|rfl|exact absurd ⟨_,rfl⟩ hcc
         have e2:=vn ht.2.2 (t:=.tuple) (.inr ⟨hcc,rfl⟩)
         exact bI (aU (by simp [bR,b2,e2])) rfl ⟨by simp [e1],rfl⟩
  |.tup [],_,hn=>exact absurd rfl hn
  |.tup [_],_,hn=>exact absurd rfl hn
  |.tup [_,_],_,hn=>exact absurd rfl hn
  |.tup (_::_::_::_::r),_,hn=>exact absurd (by simp [gr]) hn
  |.non,_,hn=>exact absurd rfl hn
  |.bl _,_,hn=>exact absurd rfl hn
  |.int _,_,hn=>exact absurd rfl hn
  |.str _,_,hn=>exact absurd rfl hn
  |.lst _,_,hn=>exact absurd rfl hn
  |.frz _,_,hn=>exact absurd rfl hn
  |.cell _,_,hn=>exact absurd rfl hn
  |.fn _,_,hn=>exact absurd rfl hn
  |.exc _ _,_,hn=>exact absurd rfl hn
end
end LD
namespace LD
open PySem
structure HasT0 (P:Nat->Option Df):Prop where
 but:P 64=some ⟨2,4,fh⟩
 any:P 65=some ⟨1,1,fi⟩
structure HasT (P:Nat->Option Df):Prop extends HasT0 P where
 signed:P 66=some ⟨2,3,gj⟩
 bent:P 72=some ⟨3,9,ip⟩
instance coeHasT {P:Nat->Option Df}:Coe (HasT P) (HasT0 P):=⟨HasT.toHasT0⟩
section
variable {Z:Env}{M:Mem}{a b lo hi:GE}{k:D->Mem->Prop}{kw:Walk->Mem->Prop}
@[simp] theorem Fh:aq (qN a Z M) kw↔aq (a Z M) fun x M=>∃z,x=.str z/\kw (fun _=>some (signs z)) M:=by
 simp only [qN,bL];refine iff_of_eq ?_;congr 1;funext x M;cases x<;>simp
theorem HZ {hl hh:Bool}:aq (oC hl hh a lo hi Z M) k↔aq (a Z M) fun x M=>aq (lo Z M) fun l M=>aq (hi Z M) fun h M=>cy hl l=true/\cy hh h=true/\∃z i j,x=.str z/\z.cps.size<=sz/\a8 z.cps.size 0 l=some i/\a8 z.cps.size z.cps.size h=some j/\k (.str (jB z i j)) M:=by
 simp only [oC,bL]
 refine iff_of_eq ?_
 congr 1;funext x M;congr 1;funext l M;congr 1;funext h M
 cases cy hl l<;>cases cy hh h<;>simp
 cases x<;>simp
 rename_i z
 by_cases hz:z.cps.size<=sz
 ·simp [hz]
  cases a8 z.cps.size 0 l<;>cases a8 z.cps.size z.cps.size h<;>simp
 ·simp [hz]
end
def iA (L:Nat)(z:Str):Prop:=z.cps.size<=L/\z.cps.all (· < 0x110000)=true
theorem iA.th {n L:Nat}{z:Str}(h:iA L z):Th n L (.str z):=by cases n<;>exact h
theorem Af {L:Nat}{z:Str}{i j:Nat}(h:iA L z):iA (j-i) (jB z i j)/\(jB z i j).cps.size<=z.cps.size-i:=by
 refine ⟨⟨?_,?_⟩,?_⟩
 ·simp [jB,cut];omega
 ·have h2:=h.2
  rw [<- Array.all_toList,List.all_eq_true] at h2
  simp only [jB]
  rw [List.all_toArray,List.all_eq_true]
  intro x hx
  exact h2 x (List.mem_of_mem_drop (List.mem_of_mem_take hx))
 ·simp [jB,cut];omega
theorem add_str {m:Bool}{x y:Str}{M:Mem}{k:D->Mem->Prop}(h:x.cps.size+y.cps.size<=sz):aq (fH m .add (.str x) (.str y) M) k↔k (.str ⟨x.cps++y.cps⟩) M:=by simp [fH,h]
abbrev Kj:Str:=" !\"#$&'()*+,-./0123456789:;<=>?@ABCDEFGHIJKLMNOPQRSTUVWXYZ[\\]^_`"
abbrev Ki:Str:="abcdefghijklmnopqrstuvwxyz{|}~\t\n"
def allSigns:Str:=⟨Kj.cps++Ki.cps⟩
theorem E6 {M:Mem}{k:D->Mem->Prop}:aq (fH false .add (.str Kj) (.str Ki) M) k↔k (.str allSigns) M:=add_str (tqh (by decide +kernel) (aJ (n:=200) (by decide)))
theorem jO:(0<(signs allSigns).length/\(signs allSigns).length<=200)/\allSigns.cps.size<=200/\((signs allSigns).all fun d=>match d with|.str z=>!ky z ""&&z.cps.size==1&&z.cps.all (· < 0x110000)|_=>false)=true:=by decide +kernel
theorem sign_is {d:D}(h:d∈signs allSigns):∃z:Str,d=.str z/\ky z ""=false/\iA 1 z:=by
 have q:=List.all_eq_true.mp jO.2.2 d h
 cases d with
 | str z =>
   simp only [Bool.and_eq_true,Bool.not_eq_true',beq_iff_eq] at q
   exact ⟨z,rfl,q.1.1,by rw [q.1.2];exact tqg 1,q.2⟩
 |_=>cases q
section
variable {P:Nat->Option Df}(hp_:HasP0 P)(ht_:HasT0 P){M:Mem}
include hp_ ht_
theorem Fs (n:Nat){p B:Nat}(hp:aO M p B)(hB:B<=900000):aq (aw P (n+4) 65 [.cell p] M) fun d M'=>∃z:Str,d=.str z/\iA 1 z/\aO M' p (B+1)/\bE p M M':=by
 refine aM ht_.any rfl ?_
 show aq (fi _ [some (.cell p)] M) _
 simp only [fi,aN,cx,ff,bc,bB,bf,cZ,List.getElem?_cons_zero,Option.getD_some,Option.some.injEq,exists_eq_left']
 refine aM ht_.but rfl ?_
 show aq (fh _ [some (.cell p),some (.str ""),none,none] M) _
 simp only [fh,aN,ql,fZ,eW,cx,cZ,dv,bf,List.getElem?_cons_zero,List.getElem?_cons_succ,Option.getD_some,Option.some.injEq,exists_eq_left',List.set_cons_zero,List.set_cons_succ]
 refine E6.mpr ?_
 simp only [jW,Fh,bf,List.getElem?_cons_zero,List.getElem?_cons_succ,Option.getD_some,Option.some.injEq,exists_eq_left',D.str.injEq]
 refine sY (fun _=>true) (fun d=>d) (ds:=signs allSigns) (aJ (by have:=jO.1.2;omega)) rfl (fun d hd=>?_) ?_
 ·obtain ⟨z,rfl,hz,_⟩:=sign_is hd
  refine ⟨_,rfl,aU ?_,fun _=>rfl⟩
  simp
  show some (!ky z "")=_
  rw [hz];rfl
 have ef:(List.filter (fun _=>true) (signs allSigns)).map (fun d=>d)=signs allSigns:=by simp
 rw [ef]
 refine bW.mpr ⟨aJ (by have:=jO.1.2;omega),?_⟩
 simp only [eW,aN,cx,g8,ff,bc,bB,fg,bf,List.getElem?_cons_zero,List.getElem?_cons_succ,Option.getD_some,Option.some.injEq,exists_eq_left',List.set_cons_zero,List.set_cons_succ,El]
 refine tk hp_ n hp (by omega) jO.1.1 (by have:=jO.1.2;omega) fun v M' hv q kk=>?_
 obtain ⟨z,e,_,hz⟩:=sign_is (List.getElem_mem hv)
 refine ⟨.str z,?_,z,rfl,hz,q,kk⟩
 show (bR (signs allSigns).length (v:Int)).bind (fun j=>(signs allSigns)[j]?)=_
 rw [fG hv]
 simp [hv,e]
end
section
variable {P:Nat->Option Df}(hp_:HasP P)(ht_:HasT P){M:Mem}
include hp_ ht_
omit hp_ ht_ in
theorem Aj {A B:Nat}{x y:Str}(hx:iA A x)(hy:iA B y):iA (x.cps.size+y.cps.size) ⟨x.cps++y.cps⟩:=by
 refine ⟨by simp,?_⟩
 have h1:=hx.2
 have h2:=hy.2
 simp only [Array.all_append,h1,h2,Bool.and_self]
theorem yU (n:Nat){p B L:Nat}{z:Str}(hz:iA L z)(hL:L<=100)(hp:aO M p B)(hB:B<=800000):aq (aw P (n+5) 66 [.cell p,.str z] M) fun d M'=>∃z':Str,d=.str z'/\iA (L+1) z'/\aO M' p (B+3)/\bE p M M':=by
 refine aM ht_.signed rfl ?_
 show aq (gj _ [some (.cell p),some (.str z),none] M) _
 have zl:=hz.1
 have zsz:z.cps.size<=sz:=aJ (by omega)
 simp only [gj,aN,ql,fZ,eW,cx,ff,bc,bB,cZ,dv,bf,fg,HZ,List.getElem?_cons_zero,List.getElem?_cons_succ,Option.getD_some,Option.some.injEq,exists_eq_left',List.set_cons_zero,List.set_cons_succ]
 have el:∀{k:D->Mem->Prop},k (.int z.cps.size) M->aq (gM .len [.str z] M) k:=fun hk=>by
  show aq (if z.cps.size<=sz then Res.ok (D.int z.cps.size) M else .bad) _
  rw [if_pos zsz];exact hk
 refine el ?_
 rw [gV]
 rw [show ((z.cps.size:Int)+1)=((z.cps.size+1:Nat):Int) by omega]
 refine tk hp_ (n+2) hp (by omega) (by omega) (by omega) fun at_ M1 hat q1 k1=>?_
 refine ⟨rfl,rfl,z,0,at_,rfl,zsz,rfl,?_,?_⟩
 ·show some (if (at_:Int)<0 then _ else min (at_:Int).toNat z.cps.size)=_
  rw [if_neg (by omega)]
  congr 1
  simp;omega
 refine bb (Fs hp_ ht_ (M:=M1) (B:=B+1) (p:=p) n q1 (by omega)) fun d M2 ⟨y,ed,hy,q2,k2⟩=>?_
 subst ed
 have c1:=Af (i:=0) (j:=at_) hz
 have hs1:=Aj c1.1 hy
 have s1:=c1.1.1
 have s2:=hy.1
 have w1:(jB z 0 at_).cps.size+y.cps.size<=sz:=aJ (by omega)
 refine (add_str w1).mpr ?_
 refine tk hp_ (n+2) (many:=2) q2 (by omega) (by decide) (by decide) fun v M3 hv q3 k3=>?_
 rw [gV]
 rw [show ((at_:Int)+(v:Int))=((at_+v:Nat):Int) by omega]
 refine ⟨rfl,rfl,z,min (at_+v) z.cps.size,z.cps.size,rfl,zsz,?_,rfl,?_⟩
 ·show some (if ((at_+v:Nat):Int)<0 then _ else min ((at_+v:Nat):Int).toNat z.cps.size)=_
  rw [if_neg (by omega)]
  congr 1
 have c2:=Af (i:=min (at_+v) z.cps.size) (j:=z.cps.size) hz
 have hs2:=Aj hs1 c2.1
 have s3:=c2.2
 have s4:=hs1.1
 simp only at s4
 have w2:((jB z 0 at_).cps++y.cps).size+(jB z (min (at_+v) z.cps.size) z.cps.size).cps.size<=sz:=aJ (by simp only [Array.size_append] at s4 ⊢;omega)
 refine (add_str w2).mpr ?_
 refine ⟨_,rfl,⟨?_,hs2.2⟩,q3,(k1.trans k2).trans k3⟩
 have:=hs2.1
 simp only [Array.size_append] at this ⊢
 omega
end
def eR:List D:=[.non,.bl true,.bl false,.str "",.str "turn",.str "join",.str "move",.str "put",.str "Turn",.tup [],.lst [],.int (10^20),.int (-1),.int 0,.int 1,.int 4,.tup [.int 0],.lst [.int 0],.str "0",.int 7]
theorem u4 {x:D}(h:x∈eR):Th 1 4 x:=by
 have st:∀z:Str,(z.cps.size<=4&&z.cps.all (· < 0x110000))=true->Th 1 4 (.str z):=fun z hz=>by
  simp only [Bool.and_eq_true,decide_eq_true_eq] at hz
  exact hz
 simp only [eR,List.mem_cons,List.not_mem_nil,or_false] at h
 rcases h with rfl|rfl|rfl|rfl|rfl|rfl|rfl|rfl|rfl|rfl|rfl|rfl|rfl|rfl|rfl|rfl|rfl|rfl|rfl|rfl
 all_goals first
  |trivial
  |exact st _ (by decide +kernel)
  |exact ⟨by decide,fun d hd=>absurd hd List.not_mem_nil⟩
  |exact ⟨by decide,fun d hd=>by rw [List.mem_singleton.mp hd];trivial⟩
theorem v9 {lo hi:D}{hl hh:Bool}{xs:List D}{M:Mem}{k:D->Mem->Prop}(h1:cy hl lo=true)(h2:cy hh hi=true)(hk:∀i j,k (.tup (cut xs i j)) M):aq (eK false (.tup xs) lo hi M) k:=by
 have q:∀{n d:Nat}{b:Bool}{x:D},cy b x=true->∃i,a8 n d x=some i:=fun {n d b x} h=>by
  cases b<;>cases x<;>first|exact ⟨_,rfl⟩|cases h
 obtain ⟨i,e1⟩:=q (n:=xs.length) (d:=0) h1
 obtain ⟨j,e2⟩:=q (n:=xs.length) (d:=xs.length) h2
 show aq (match a8 xs.length 0 lo,a8 xs.length xs.length hi with|some l,some h=>Res.ok (D.tup (cut xs l h)) M|_,_=>.bad) k
 rw [e1,e2]
 exact hk i j
theorem kr {xs:List D}{i j:Nat}:(cut xs i j).length<=xs.length/\(cut xs i j).length<=j/\∀d∈cut xs i j,d∈xs:=by
 refine ⟨?_,?_,fun d hd=>List.mem_of_mem_drop (List.mem_of_mem_take hd)⟩
 ·unfold cut;rw [List.length_take,List.length_drop];omega
 ·unfold cut;rw [List.length_take];omega
theorem I0 {xs:List D}{M:Mem}{k:D->Mem->Prop}(hk:∀ys:List D,ys.length<=1->(∀d∈ys,d∈xs)->k (.tup ys) M):aq (eK false (.tup xs) .non (.int 1) M) k:=by
 show aq (Res.ok (D.tup (cut xs 0 (min 1 xs.length))) M) k
 exact hk _ (tqh kr.2.1 (by omega)) kr.2.2
theorem Fv {xs:List D}{a:Nat}{M:Mem}{k:D->Mem->Prop}(ha:a<xs.length)(hk:k (.tup (xs.take a)) M):aq (eK false (.tup xs) .non (nD a) M) k:=by
 show aq (Res.ok (D.tup (cut xs 0 (if (a:Int)<0 then _ else min (a:Int).toNat xs.length))) M) k
 rw [if_neg (by omega)]
 have:cut xs 0 (min (a:Int).toNat xs.length)=xs.take a:=by
  unfold cut
  rw [show min (a:Int).toNat xs.length-0=a by simp;omega,List.drop_zero]
 rw [this];exact hk
theorem A2 {xs:List D}{a:Nat}{M:Mem}{k:D->Mem->Prop}(ha:a<xs.length)(hk:k (.tup (xs.drop (a+1))) M):aq (eK false (.tup xs) (.int ((a:Int)+1)) .non M) k:=by
 show aq (Res.ok (D.tup (cut xs (if (a:Int)+1<0 then _ else min ((a:Int)+1).toNat xs.length) xs.length)) M) k
 rw [if_neg (by omega)]
 have:cut xs (min ((a:Int)+1).toNat xs.length) xs.length=xs.drop (a+1):=by
  unfold cut
  rw [show min ((a:Int)+1).toNat xs.length=a+1 by omega,List.take_of_length_le (by simp)]
 rw [this];exact hk
theorem Th.tup_of {k L:Nat}{xs:List D}(hl:xs.length<=L)(h:∀d∈xs,Th k L d):Th (k+1) L (.tup xs):=⟨hl,h⟩
theorem Th.lst_of {k L:Nat}{xs:List D}(hl:xs.length<=L)(h:∀d∈xs,Th k L d):Th (k+1) L (.lst xs):=⟨hl,h⟩
def pV (c:Call):GS:=(ah (aZ (ia (aG (cb .str (af 1))) (aG (aW .lt (af 3) (gI 3)))) (ah (aY (ax 66 c (aa (af 0) (aa (af 1) aj)))) av) av) (ah (aY (aQ (af 7) (af 4))) av))
section
variable {P:Nat->Option Df}(hp_:HasP P)(ht_:HasT P)(hw_:mY P){M:Mem}
include hp_ ht_ hw_
theorem Am (n:Nat){k L p B kind pick:Nat}{d:D}{x2 x5 x6 x8:Option D}(hd:Th k L d)(hk:k<=50)(h6:6<=L)(hL:L<=50)(hp:aO M p B)(hB:B<=800000)(hpk:pick<20) :
 aq (pV (aw P (n+5)) [some (.cell p),some d,x2,some (nD kind),some (nD pick),x5,x6,some (.lst eR),x8] M) (jA fun d' M'=>Th (k+1) (L+1) d'/\aO M' p (B+3)/\bE p M M'):=by
 have fin:aq (ah (aY (aQ (af 7) (af 4))) av [some (.cell p),some d,x2,some (nD kind),some (nD pick),x5,x6,some (.lst eR),x8] M) (jA fun d' M'=>Th (k+1) (L+1) d'/\aO M' p (B+3)/\bE p M M'):=by
  have hl:pick<eR.length:=hpk
  exact cR (v:=eR[pick]) (aF (by simp [-wC,oA hl])) ⟨(u4 (List.getElem_mem hl)).mono (by omega) (by omega),hp.mono (by omega),.refl⟩
 unfold pV
 cases d with
 |fn j=>exact absurd hd (by cases k<;>exact id)
 |exc y p=>exact absurd hd (by cases k<;>exact id)
 | str z =>
   have hz:iA L z:=by cases k<;>exact hd
   by_cases c:(kind:Int)<3
   ·simp only [aN,jP,IT,iP,vp,bf,jf,cZ,List.getElem?_cons_zero,List.getElem?_cons_succ,Option.getD_some,Option.some.injEq,exists_eq_left',cx,ff,bc,bB]
    refine ⟨true,rfl,true,rfl,?_⟩
    rw [if_pos rfl]
    refine ⟨_,rfl,_,rfl,?_⟩
    rw [decide_eq_true c,if_pos rfl]
    exact bb (yU hp_ ht_ n hz (by omega) hp hB) fun d' M' ⟨z',e,h1,h2,h3⟩=>⟨by rw [e];exact h1.th.mono (tqg _) (tqg _),h2,h3⟩
   ·refine aI (aU ?_) fin
    simp [bZ]
    omega
 |_=>exact aI rfl fin
omit hp_ ht_ hw_ in
theorem sO {k:Fl->Mem->Prop}{rest:GS}{M:Mem}{x0 x1 x2 x3 x4 x5 x6 x7 x8:Option D}(hk:aq (rest [x0,x1,x2,x3,x4,x5,x6,some (.lst eR),x8] M) k) :
 aq (ah (aP (.one 7) (ba false (aa gN (aa mf (aa wG (aa (gS "") (aa (gS "turn") (aa (gS "join") (aa (gS "move") (aa (gS "put") (aa (gS "Turn") (aa (bh aj) (aa (ba false aj) (aa (aA false .pow (gI 10) (gI 20)) (aa (fT (gI 1)) (aa (gI 0) aj)))))))))))))))) (ah (aP (.one 7) (aA false .add (af 7) (ba false (aa (gI 1) (aa (gI 4) (aa (bh (aa (gI 0) aj)) (aa (ba false (aa (gI 0) aj)) (aa (gS "0") (aa (gI 7) aj))))))))) rest) [x0,x1,x2,x3,x4,x5,x6,x7,x8] M) k:=by
 simp only [aN,fZ]
 have e:((ba false (aa gN (aa mf (aa wG (aa (gS "") (aa (gS "turn") (aa (gS "join") (aa (gS "move") (aa (gS "put") (aa (gS "Turn") (aa (bh aj) (aa (ba false aj) (aa (aA false .pow (gI 10) (gI 20)) (aa (fT (gI 1)) (aa (gI 0) aj))))))))))))))):GE) [x0,x1,x2,x3,x4,x5,x6,x7,x8] M=.ok (.lst (eR.take 14)) M:=by rfl
 rw [e]
 show aq (ah _ rest [x0,x1,x2,x3,x4,x5,x6,some (.lst (eR.take 14)),x8] M) k
 simp only [aN,fZ]
 have e2:((aA false .add (af 7) (ba false (aa (gI 1) (aa (gI 4) (aa (bh (aa (gI 0) aj)) (aa (ba false (aa (gI 0) aj)) (aa (gS "0") (aa (gI 7) aj)))))))):GE) [x0,x1,x2,x3,x4,x5,x6,some (.lst (eR.take 14)),x8] M=.ok (.lst eR) M:=by rfl
 rw [e2]
 exact hk
def ks (c:Call):GS:=ah (aZ (aG (cb .tuple (af 1))) (ah (aP (.one 8) (ba false (aa (bD (.list false) (aa (af 1) aj)) (aa (aA false .add (af 1) (cY false false true (af 1) gN (gI 1))) (aa (cY false false true (af 1) gN (fT (gI 1))) (aa (pT false (af 1)) (aa (aA false .add (af 1) (bh (aa (af 5) aj))) (aa (cY false true false (af 1) (gI 1) gN) (aa (bh (aa (af 1) aj)) aj))))))))) (ah (aY (aQ (aA false .add (af 8) (ba false (aa (aQ (af 7) (af 4)) aj))) (af 3))) av)) av) (ah (aZ (aG (ax 67 c (aa (af 1) aj))) (ah (aY (aQ (ba false (aa (aA false .add (af 1) (gI 1)) (aa (aA false .sub (af 1) (gI 1)) (aa (aA false .sub (gI 0) (af 1)) (aa (af 5) (aa (af 5) (aa (aW .eq (af 1) (gI 1)) (aa (aA false .sub (gI 3) (af 1)) (aa (aQ (af 7) (af 4)) aj))))))))) (af 3))) av) av) (pV c))
theorem Cj (n:Nat){k L p B kind pick:Nat}{num:Int}{d:D}{x2 x6 x8:Option D}(hd:Th k L d)(hk:k<=50)(h6:6<=L)(hL:L<=50)(hp:aO M p B)(hB:B<=800000)(hkd:kind<8)(hpk:pick<20) :
 aq (ks (aw P (n+5)) [some (.cell p),some d,x2,some (nD kind),some (nD pick),some (.int num),x6,some (.lst eR),x8] M) (jA fun d' M'=>Th (k+1) (L+1) d'/\aO M' p (B+3)/\bE p M M'):=by
 have hl:pick<eR.length:=hpk
 have ho:Th (k+1) (L+1) eR[pick]:=(u4 (List.getElem_mem hl)).mono (by omega) (by omega)
 have pick8:∀{xs:List D},xs.length=8->(∀x∈xs,Th (k+1) (L+1) x)->∃x,fo (.lst xs) (nD kind) M=some x/\Th (k+1) (L+1) x:=fun {xs} h8 h=>⟨_,oA (by omega),h _ (List.getElem_mem _)⟩
 unfold ks
 have tail:=Am hp_ ht_ hw_ n (x2:=x2) (x5:=some (.int num)) (x6:=x6) (x8:=x8) (kind:=kind) hd hk h6 hL hp hB hpk
 cases d with
 |fn j=>exact absurd hd (by cases k<;>exact id)
 |exc y p=>exact absurd hd (by cases k<;>exact id)
 | tup xs =>
   refine ja (aU (by simp [bZ])) ?_
   simp only [aN,fZ,cx,lH,bc,bB,bf,fg,dv,mS,g7,yj,JH,cZ,g8,List.getElem?_cons_zero,List.getElem?_cons_succ,Option.getD_some,Option.some.injEq,exists_eq_left',List.set_cons_zero,List.set_cons_succ]
   have hx:=hd.tup
   have hxl:=hx.1
   have hx1:∀d∈xs,Th k (L+1) d:=fun d hd=>(hx.2 d hd).mono (tqg _) (by omega)
   have up:∀{ys:List D},ys.length<=L+1->(∀d∈ys,d∈xs\/Th k (L+1) d)->Th (k+1) (L+1) (.tup ys):=fun {ys} hl h=>.tup_of hl fun d hd=>by
    rcases h d hd with z|z
    ·exact hx1 d z
    ·exact z
   refine BK.mpr (bW.mpr ⟨aJ (by omega),rfl,rfl,I0 fun ys y1 y2=>?_⟩)
   refine ll.mpr ⟨aJ (by simp;omega),1,rfl,rfl,rfl,v9 (hl:=false) (hh:=true) rfl rfl fun i2 j2=>DJ.mpr ⟨aJ (by simp),ll.mpr ⟨aJ (by simp;omega),rfl,rfl,v9 (hl:=true) (hh:=false) rfl rfl fun i3 j3=>⟨aJ (by simp),bW.mpr ⟨aJ (by simp),?_⟩⟩⟩⟩⟩
   obtain ⟨x,e1,e2⟩:=pick8 (xs:=[.lst xs,.tup (xs++ys),.tup (cut xs i2 j2),.tup xs.reverse,.tup (xs++[.int num]),.tup (cut xs i3 j3),.tup [.tup xs]]++[eR[pick]]) rfl (fun x hx'=>by
    simp only [List.cons_append,List.nil_append,List.mem_cons,List.not_mem_nil,or_false] at hx'
    rcases hx' with rfl|rfl|rfl|rfl|rfl|rfl|rfl|rfl
    ·exact .lst_of (by omega) hx1
    ·exact up (by simp;omega) fun d hd=>(List.mem_append.mp hd).elim .inl fun z=>.inl (y2 d z)
    ·exact up (tqh kr.1 (by omega)) fun d hd=>.inl (kr.2.2 d hd)
    ·exact up (by simp;omega) fun d hd=>.inl (List.mem_reverse.mp hd)
    ·exact up (by simp;omega) fun d hd=>by
      rcases List.mem_append.mp hd with z|z
      ·exact .inl z
      ·rw [List.mem_singleton.mp z];exact .inr (by cases k<;>trivial)
    ·exact up (tqh kr.1 (by omega)) fun d hd=>.inl (kr.2.2 d hd)
    ·exact .tup_of (by simp) fun d hd'=>by rw [List.mem_singleton.mp hd'];exact hd.mono (tqg _) (by omega)
    ·exact ho)
   refine cR (v:=x) (aF ?_) ⟨e2,hp.mono (by omega),.refl⟩
   simp only [g8,dv,bf,lH,bc,bB]
   exact ⟨_,rfl,_,rfl,_,rfl,_,oA hl,bW.mpr ⟨aJ (by simp),jZ.mpr (bW.mpr ⟨aJ (by simp),_,rfl,x,e1,rfl,rfl⟩)⟩⟩
 | int i =>
   have qw:=lu hw_ (n+4) (M:=M) hd
   refine aI (aU (by simp [bZ])) (ja (aU (by simp [qw,qb])) ?_)
   simp only [aN,cx,lH,bc,bB,bf,dv,cZ,g8,jf,List.getElem?_cons_zero,List.getElem?_cons_succ,Option.getD_some,Option.some.injEq,exists_eq_left',gV,nr]
   refine ⟨_,rfl,_,oA hl,bW.mpr ⟨aJ (by simp),?_⟩⟩
   obtain ⟨x,e1,e2⟩:=pick8 (xs:=[.int (i+1),.int (i-1),.int (0-i),.int num,.int num,.bl (i==1),.int (3-i),eR[pick]]) rfl (fun x hx=>by
    simp only [List.mem_cons,List.not_mem_nil,or_false] at hx
    rcases hx with rfl|rfl|rfl|rfl|rfl|rfl|rfl|rfl
    all_goals first|exact ho|trivial)
   exact ⟨x,e1,e2,hp.mono (by omega),.refl⟩
 | _ =>
   have qw:=lu hw_ (n+4) (M:=M) hd
   exact aI (aU (by simp [bZ])) (aI (aU (by simp [qw,qb])) tail)
omit hp_ ht_ hw_ in
theorem BB {k L:Nat}{xs:List D}(h:Th k L (.tup xs))(hk:k<=60):bU .ne (.tup xs) (.tup []) M=some (!xs.isEmpty):=by
 refine r9 (h.mono (n':=64) (by omega) (tqg L)).pure rfl ?_
 cases xs<;>rfl
theorem tw (n deep:Nat){k L p B:Nat}{d:D}(hd:Th k L d)(hk:k<=50)(h6:6<=L)(hL:L<=50)(hp:aO M p B)(hB:B<=700000)
 (ih:0<deep->∀{k' B':Nat}{d':D}{M':Mem},Th k' L d'->k'<=50->aO M' p B'->B'<=B+4->aq (aw P (n+deep+5) 72 [.cell p,d',.int ((deep:Int)-1)] M') fun e M''=>Th (k'+1) (L+1) e/\aO M'' p (B'+6*deep)/\bE p M' M'') :
 aq (aw P (n+deep+6) 72 [.cell p,d,nD deep] M) fun d' M'=>Th (k+1) (L+1) d'/\aO M' p (B+6*(deep+1))/\bE p M M':=by
 refine aM ht_.bent rfl ?_
 show aq (ah _ (ah _ (ah _ (ah (aZ _ _ av) (ah _ (ah _ (ks (aw P (n+deep+5)))))))) [some (.cell p),some d,some (nD deep),none,none,none,none,none,none] M) _
 simp only [aN,fZ,eW,ff,bc,bB,cZ,bf,dv,List.getElem?_cons_zero,List.getElem?_cons_succ,Option.getD_some,Option.some.injEq,exists_eq_left',List.set_cons_zero,List.set_cons_succ]
 refine tk hp_ (n+deep+3) (many:=8) hp (by omega) (by decide) (by decide) fun kind M1 hkd q1 k1=>?_
 refine tk hp_ (n+deep+3) (many:=20) q1 (by omega) (by decide) (by decide) fun pick M2 hpk q2 k2=>?_
 refine tk hp_ (n+deep+3) (many:=9) q2 (by omega) (by decide) (by decide) fun num M3 hnm q3 k3=>?_
 rw [nr]
 have K3:=(k1.trans k2).trans k3
 have mid:aq (ah _ (ah _ (ks (aw P (n+deep+5)))) [some (.cell p),some d,some (nD deep),some (nD kind),some (nD pick),some (.int ((num:Int)-2)),none,none,none] M3) (jA fun d' M'=>Th (k+1) (L+1) d'/\aO M' p (B+6*(deep+1))/\bE p M M'):=
  sO (bb (Cj hp_ ht_ hw_ (n+deep) hd hk h6 hL q3 (by omega) hkd hpk) fun fl M' hf=>by
   cases fl with
   |next Z=>exact ⟨hf.1,hf.2.1.mono (by omega),K3.trans hf.2.2⟩
   |ret e=>exact ⟨hf.1,hf.2.1.mono (by omega),K3.trans hf.2.2⟩
   |exc x Z=>exact hf.elim)
 refine aN.mp ?_
 cases d with
 |fn j=>exact absurd hd (by cases k<;>exact id)
 |exc y p=>exact absurd hd (by cases k<;>exact id)
 | tup xs =>
   have ne:=BB (M:=M3) hd (by omega)
   by_cases hc:xs≠[]/\0<deep/\4<pick
   ·obtain ⟨c1,c2,c3⟩:=hc
    have lx:0<xs.length:=List.length_pos_iff.mpr c1
    have ei:xs.isEmpty=false:=by cases xs with|nil=>exact absurd rfl c1|cons _ _=>rfl
    rw [ei] at ne
    refine ja (aU (by simp [bZ,ne];omega)) ?_
    have hx:=hd.tup
    have hxl:=hx.1
    cases k with
    |zero=>exact hd.elim
    | succ k' =>
      have hx':∀d∈xs,Th k' L d:=hd.2
      simp only [aN,fZ,cx,eW,g7,g8,mS,ff,bc,bB,cZ,bf,dv,fg,List.getElem?_cons_zero,List.getElem?_cons_succ,Option.getD_some,Option.some.injEq,exists_eq_left',List.set_cons_zero,List.set_cons_succ,oy,gV,nr]
      refine tk hp_ (n+deep+3) q3 (by omega) lx (by omega) fun at_ M4 hat q4 k4=>?_
      refine ⟨rfl,rfl,Fv hat ?_⟩
      refine ⟨xs[at_],?_,?_⟩
      ·show (bR xs.length (at_:Int)).bind (fun j=>xs[j]?)=_
       rw [fG hat];simp [hat]
      refine bb (ih c2 (hx' _ (List.getElem_mem hat)) (by omega) q4 (by omega)) fun e M5 ⟨he,q5,k5⟩=>?_
      refine ⟨aJ (by simp),ll.mpr ⟨aJ (by simp;omega),rfl,rfl,A2 hat ?_⟩⟩
      refine ll.mpr ⟨aJ (by simp;omega),.tup_of (by simp;omega) fun d hd=>?_,q5.mono (by omega),(K3.trans k4).trans k5⟩
      rcases List.mem_append.mp hd with z|z
      ·rcases List.mem_append.mp z with z|z
       ·exact (hx' d (List.mem_of_mem_take z)).mono (by omega) (by omega)
       ·rw [List.mem_singleton.mp z];exact he
      ·exact (hx' d (List.mem_of_mem_drop z)).mono (by omega) (by omega)
   ·refine aI (aU ?_) mid
    simp [bZ,ne]
    by_cases e0:xs=[]
    ·simp [e0]
    ·right
     refine ⟨e0,?_⟩
     have hc':¬ (0<deep/\4<pick):=fun z=>hc ⟨e0,z⟩
     omega
 |_=>exact aI (aU (by simp [bZ])) mid
theorem oq:∀(deep n:Nat) {k L p B:Nat}{d:D}{M:Mem},deep<=9->Th k L d->k<=50->6<=L->L<=50->aO M p B->B+10*deep<=700000->
 aq (aw P (n+deep+6) 72 [.cell p,d,nD deep] M) fun d' M'=>Th (k+1) (L+1) d'/\aO M' p (B+6*(deep+1))/\bE p M M'
 |0,n,k,L,p,B,d,M,h9,hd,hk,h6,hL,hp,hB=>tw hp_ ht_ hw_ n 0 hd hk h6 hL hp (by omega) (fun z=>absurd z (by decide))
 |deep+1,n,k,L,p,B,d,M,h9,hd,hk,h6,hL,hp,hB=>tw hp_ ht_ hw_ n (deep+1) hd hk h6 hL hp (by omega) (fun _ {k' B' d' M'} h1 h2 h3 h4=>by
  rw [show (((deep+1:Nat):Int)-1)=(deep:Int) by omega]
  exact oq deep n (by omega) h1 h2 h6 hL h3 (by omega))
end
end LD
namespace LD
open PySem
section
variable {P:Nat->Option Df}{M:Mem}{k L:Nat}{d:D}
theorem va (h:yx P)(h13:P 13=some ⟨1,1,dn⟩)(n:Nat)(hd:Th k L d)(hL:L<=100)(hb:fu d=true):aw P (n+8) 13 [d] M=.ok .non M:=by
 refine aF (aM h13 rfl ?_)
 simp [dn,pE h n hd hL,hb]
theorem zD (h:yx P)(h13:P 13=some ⟨1,1,dn⟩)(n:Nat)(hd:Th k L d)(hL:L<=100)(hb:fu d=false):aw P (n+8) 13 [d] M=.err (.exc 3 none) M:=by
 refine fc (fU h13 rfl ?_)
 simp [dn,pE h n hd hL,hb]
 decide
end
section
variable {P:Nat->Option Df}(h:mZ P){M:Mem}
include h
theorem sE (n:Nat){z:Str}(hz:aK 64 (.str z)=true):aw P (n+1) 40 [.str z,.str z] M=.ok (.bl true) M:=by
 refine aF (aM h.same rfl ?_)
 have e:bU .eq (.str z) (.str z) M=some true:=sd hz hz (by simp [view,bH])
 show aq (dQ (aw P n) [some (.str z),some (.str z)] M) _
 unfold dQ
 refine aI rfl (aI rfl (aI rfl (bI rfl (v:=.bl true) ?_ ⟨rfl,rfl⟩)))
 show ((dg M (bU .eq (.str z) (.str z) M)).bind fun b M=>Res.ok (D.bl b) M)=_
 rw [e];rfl
end
end LD
namespace LD
open PySem
def la (i:Int):List D:=[.exc 0 (some i),.exc 1 (some i),.exc 2 (some i),.exc 3 none,.exc 4 none,.exc 5 none,.exc 6 none,.exc 7 none,.exc 8 none,.exc 9 none,.exc 10 none,.exc 11 none,.exc 12 none,.exc 13 none]
def nF:D->D
 |.exc 0 (some i)=>.lst [.str "row",.int i]
 |.exc 1 (some i)=>.lst [.str "rule",.int i]
 |.exc 2 (some i)=>.lst [.str "step",.int i]
 |.exc 3 _=>.lst [.str "machine"]
 |.exc 4 _=>.lst [.str "long"]
 |.exc 5 _=>.lst [.str "word"]
 |.exc 6 _=>.lst [.str "work"]
 |.exc 7 _=>.lst [.str "bound"]
 |.exc 8 _=>.lst [.str "many"]
 |.exc 9 _=>.lst [.str "place"]
 |.exc 10 _=>.lst [.str "deed"]
 |.exc 11 _=>.lst [.str "nothing"]
 |.exc 12 _=>.lst [.str "text"]
 |.exc 13 _=>.lst [.str "line"]
 |_=>.non
theorem sg {f:Str}{c j:Nat}{i:Int}{Z:Env}{M:Mem}(h:Z[j]?.getD none=some (.exc c (some i)))(e:gq c=f):k9 f (af j) Z M=.ok (.int i) M:=by
 unfold k9 af
 rw [h]
 show (if gq c=f then Res.ok (D.int i) M else .bad)=_
 rw [if_pos e]
theorem xP {x:D}{a:GE}{Z:Env}{M:Mem}{y:D}(e:a Z M=.ok y M):ba false (aa (gC x) (aa a aj)) Z M=.ok (.lst [x,y]) M:=by
 exact jT (aC rfl (aC e rfl)) (tqq rfl)
section
variable {P:Nat->Option Df}(h75:P 75=some ⟨1,3,dM⟩){M:Mem}
include h75
theorem wZ (n:Nat){i:Int}{d:D}(hd:d∈la i):aw P (n+1) 75 [d] M=.ok (nF d) M:=by
 refine aF (aM h75 rfl ?_)
 show aq (dM (aw P n) [some d,none,none] M) _
 simp only [la,List.mem_cons,List.not_mem_nil,or_false] at hd
 rcases hd with rfl|rfl|rfl|rfl|rfl|rfl|rfl|rfl|rfl|rfl|rfl|rfl|rfl|rfl
 ·exact cp rfl (cp rfl (cp rfl (cp rfl (cp rfl (aI rfl (bI rfl (xP (sg rfl rfl)) ⟨rfl,rfl⟩))))))
 ·exact cp rfl (cp rfl (cp rfl (cp rfl (cp rfl (aI rfl (aI rfl (bI rfl (xP (sg rfl rfl)) ⟨rfl,rfl⟩)))))))
 ·exact cp rfl (cp rfl (cp rfl (cp rfl (cp rfl (aI rfl (aI rfl (aI rfl (bI rfl (xP (sg rfl rfl)) ⟨rfl,rfl⟩))))))))
 all_goals exact dj (by rfl)
end
section
variable {P:Nat->Option Df}(h:mZ P){M:Mem}
include h
theorem qi (n:Nat){ds:List D}(hz:ds.length<=sz)(hs:∀d∈ds,aw P n 40 [d,d] M=.ok (.bl true) M):aw P (n+1) 40 [.lst ds,.lst ds] M=.ok (.bl true) M:=by
 refine aF (aM h.same rfl ?_)
 show aq (dQ (aw P n) [some (.lst ds),some (.lst ds)] M) _
 unfold dQ
 exact aI rfl (aI rfl (aI rfl (aI rfl (aI rfl (A6 h n rfl rfl rfl rfl rfl rfl hz hs)))))
theorem yV (n:Nat)(i:Int):aw P (n+1) 40 [.int i,.int i] M=.ok (.bl true) M:=by
 refine aF (aM h.same rfl ?_)
 show aq (dQ (aw P n) [some (.int i),some (.int i)] M) _
 unfold dQ
 exact aI rfl (aI rfl (bI rfl (v:=.bl (i==i)) rfl ⟨by simp,rfl⟩))
end
end LD
namespace LD
open PySem
@[simp] theorem sH {Z:Env}{M:Mem}{a:GE}{kf:Fl->Mem->Prop}{c:Nat}:aq (ju c a Z M) kf↔aq (a Z M) fun x M=>∃i,x=.int i/\i.natAbs<2^64/\kf (.exc (.exc c (some i)) Z) M:=by
 unfold ju
 cases a Z M with
 | ok x M1 =>
   cases x with
   |int i=>by_cases h:i.natAbs<2^64<;>simp [h]
   |_=>simp
 |err=>exact Iff.rfl
 |bad=>exact Iff.rfl
abbrev lI (m:bq):D->Bool:=bg 0 ((m.deeds.length:Int)-1)
section
variable {P:Nat->Option Df}(h:HasM0 P){M:Mem}{k L:Nat}{d:D}
include h
theorem uD (n:Nat){m:bq}(hd:Th k L d):aw P (n+2) 16 [m.d,d] M=.ok (.bl (lI m d)) M:=by
 refine aF (aM h.is_deed_number rfl ?_)
 simp [eP,bq.d,bR,ko h.q _ hd]
theorem Eg (n:Nat){m:bq}{ds:List D}(hd:∀d∈ds,Th k L d)(hg:∀d∈ds,lI m d=true):aw P (n+3) 17 [m.d,.lst ds] M=.ok .non M:=by
 refine aF (aM h.need_numbers rfl ?_)
 show aq (cJ (aw P (n+2)) [some m.d,some (.lst ds),none,none] M) _
 unfold cJ
 refine aI rfl ?_
 simp only [aN,gJ,nq,bf]
 refine ⟨_,rfl,rfl,?_⟩
 refine eF (ds:=dD 0 ds) (fun i Z M'=>M'=M/\∃a b,Z=[some m.d,some (.lst ds),a,b]) (fun _ _ _ e=>rfl) ⟨rfl,none,none,rfl⟩ ?_ ?_
 ·rintro i e Z M' he ⟨rfl,a,b,rfl⟩
  rw [fe] at he
  obtain ⟨x,hx,rfl⟩:=Option.map_eq_some_iff.mp he
  have hm:=List.mem_of_getElem? hx
  refine ⟨_,rfl,aI (aU ?_) ⟨_,rfl,rfl,_,_,rfl⟩⟩
  simp [uD h n (hd x hm),hg x hm]
 ·rintro Z M' ⟨rfl,a,b,rfl⟩
  exact ⟨rfl,rfl⟩
theorem Bw (n:Nat){m:bq}{ds:List D}{i:Nat}{x:D}(hd:∀d∈ds,Th k L d)(hx:ds[i]?=some x)(hb:lI m x=false)(hg:∀j y,j<i->ds[j]?=some y->lI m y=true)(hi:i<1000000):aw P (n+3) 17 [m.d,.lst ds] M=.err (.exc 0 (some (i:Int))) M:=by
 refine fc (fU h.need_numbers rfl ?_)
 show aq (cJ (aw P (n+2)) [some m.d,some (.lst ds),none,none] M) _
 unfold cJ
 refine aI rfl ?_
 simp only [aN,gJ,nq,bf]
 refine ⟨_,rfl,rfl,?_⟩
 refine iE (ds:=dD 0 ds) (fun j fl M'=>M'=M/\((j<=i/\∃a b,fl=.next [some m.d,some (.lst ds),a,b])\/(i<j/\∃Z,fl=.exc (.exc 0 (some (i:Int))) Z))) (fun _ _ _ e=>rfl) ⟨rfl,.inl ⟨Nat.zero_le _,none,none,rfl⟩⟩ ?_ ?_
 ·rintro j e fl M' he ⟨rfl,hj⟩
  rw [fe] at he
  obtain ⟨y,hy,rfl⟩:=Option.map_eq_some_iff.mp he
  rcases hj with ⟨hj,a,b,rfl⟩|⟨hj,Z,rfl⟩
  ·show aq (ah _ av [some m.d,some (.lst ds),some (.int ((0+j:Nat):Int)),some y] M') _
   rw [Nat.zero_add]
   have e:=uD h n (m:=m) (M:=M') (hd y (List.mem_of_getElem? hy))
   by_cases c:j=i
   ·subst c
    rw [hx] at hy;cases hy
    rw [hb] at e
    refine ja (aU (by simp [e])) ?_
    simp only [aN,sH,bf]
    exact ⟨_,rfl,_,rfl,by omega,rfl,.inr ⟨Nat.lt_succ_self _,_,rfl⟩⟩
   ·rw [hg j y (by omega) hy] at e
    exact aI (aU (by simp [e])) ⟨rfl,.inl ⟨by omega,_,_,rfl⟩⟩
  ·exact ⟨rfl,.inr ⟨by omega,_,rfl⟩⟩
 ·rintro fl M' ⟨rfl,hj⟩
  have hlt:=(List.getElem?_eq_some_iff.mp hx).1
  have:(dD 0 ds).length=ds.length:=jd ds 0
  rcases hj with ⟨hj,_⟩|⟨_,Z,rfl⟩
  ·omega
  ·exact ⟨rfl,rfl⟩
theorem Bv (n:Nat){m:bq}(hd:bZ .list d=some false):aw P (n+3) 17 [m.d,d] M=.err (.exc 0 (some 0)) M:=by
 refine fc (fU h.need_numbers rfl ?_)
 show aq (cJ (aw P (n+2)) [some m.d,some d,none,none] M) _
 unfold cJ
 refine ja (aU (by simp [hd])) ?_
 simp only [aN,sH,cZ]
 exact ⟨0,rfl,by decide,rfl,rfl⟩
theorem Ba (n:Nat){r:D}(hd:Th k L d)(hL:L<=100)(hb:fu d=false):aw P (n+9) 18 [d,r] M=.err (.exc 3 none) M:=by
 refine fc (fU h.need_row rfl ?_)
 show aq (dP (aw P (n+8)) [some d,some r] M) _
 unfold dP
 simp only [aN,eZ,dZ,bc,bB,bf]
 refine ⟨_,rfl,?_⟩
 rw [zD h.q h.need_machine n hd hL hb]
 exact ⟨rfl,rfl⟩
theorem uN (n:Nat){m:bq}{r:D}{x:D}(hm:cB m)(e:aw P (n+8) 17 [m.d,r] M=.err x M):aw P (n+9) 18 [m.d,r] M=.err x M:=by
 refine fc (fU h.need_row rfl ?_)
 show aq (dP (aw P (n+8)) [some m.d,some r] M) _
 unfold dP
 simp only [aN,eZ,dZ,bc,bB,bf]
 refine ⟨_,rfl,?_⟩
 rw [va h.q h.need_machine n (gn hm) (by decide) (lC hm)]
 show aq (ah _ _ [some m.d,some r] M) _
 simp only [aN,eZ,dZ,bc,bB,bf]
 refine ⟨_,rfl,_,rfl,?_⟩
 rw [e]
 exact ⟨rfl,rfl⟩
theorem Bb (n:Nat){m:bq}{ds:List D}(hm:cB m)(e:aw P (n+8) 17 [m.d,.lst ds] M=.ok .non M)(hl:40<ds.length):aw P (n+9) 18 [m.d,.lst ds] M=.err (.exc 4 none) M:=by
 refine fc (fU h.need_row rfl ?_)
 show aq (dP (aw P (n+8)) [some m.d,some (.lst ds)] M) _
 unfold dP
 simp only [aN,eZ,dZ,bc,bB,bf]
 refine ⟨_,rfl,?_⟩
 rw [va h.q h.need_machine n (gn hm) (by decide) (lC hm)]
 show aq (ah _ _ [some m.d,some (.lst ds)] M) _
 simp only [aN,eZ,dZ,bc,bB,bf]
 refine ⟨_,rfl,_,rfl,?_⟩
 rw [e]
 refine ja (aU ?_) ?_
 ·simp only [iP,jf,fg,bc,bB,bf,cZ]
  refine ⟨_,rfl,_,rfl,_,rfl,?_,rfl⟩
  exact decide_eq_true (by omega)
 ·exact ⟨rfl,rfl⟩
end
end LD
namespace LD
open PySem
theorem zS {x:D}{r:List D}{M:Mem}:fo (.tup (x::r)) (.int 0) M=some x:=by
 show (bR (x::r).length ((0:Nat):Int)).bind (fun j=>(x::r)[j]?)=_
 rw [fG (by simp)]
 rfl
end LD
namespace LD
open PySem
theorem AA {m:bq}{Z:Env}{M:Mem}{j:Nat}(h:Z[j]?.getD none=some m.d):aQ (af j) (gI 0) Z M=.ok (nD m.words) M:=by
 refine aF ?_
 simp only [g8,bf,cZ]
 exact ⟨_,h,_,zS,rfl,trivial⟩
theorem A1 {xs:List D}{M:Mem}{k:D->Mem->Prop}(hk:k (.tup (xs.take (xs.length-1))) M):aq (eK false (.tup xs) .non (.int (-1)) M) k:=by
 show aq (Res.ok (D.tup (cut xs 0 (if (-1:Int)<0 then ((-1:Int)+(xs.length:Int)).toNat else min (-1:Int).toNat xs.length))) M) k
 rw [if_pos (by decide)]
 have:cut xs 0 ((-1:Int)+(xs.length:Int)).toNat=xs.take (xs.length-1):=by
  unfold cut
  rw [show ((-1:Int)+(xs.length:Int)).toNat-0=xs.length-1 by omega,List.drop_zero]
 rw [this];exact hk
end LD
namespace LD
open PySem
section
variable {Z:Env}{M:Mem}{kf:Fl->Mem->Prop}{rest gb:GS}{a:GE}{s:GA}
theorem ne_self {z:Str}(hz:aK 64 (.str z)=true):bU .ne (.str z) (.str z) M=some false:=r9 (v:=true) (x:=.str z) (y:=.str z) hz hz (by simp [view,bH])
theorem Ms {c:Call}{f:Nat}{xs:List D}{z:Str}(hz:aK 64 (.str z)=true)(es:s Z M=.ok xs M)(ec:c f xs M=.ok (.str z) M):(aG (aW .ne (ax f c s) (gC (.str z))):GT) Z M=.ok false M:=by
 refine aU ?_
 simp only [iP,jf,cZ]
 rw [cS es,ec,du]
 exact ⟨_,ne_self hz,false,rfl,rfl,rfl⟩
theorem Cy {j l:Nat}{xs:List D}{v:Nat}(h1:Z[j]?.getD none=some (.lst xs))(h2:Z[l]?.getD none=some (nD v))(hz:xs.length<=100):cY false false true (af j) gN (af l) Z M=.ok (.lst (xs.take v)) M:=by
 refine aF ?_
 simp only [mS,bf,cZ]
 exact ⟨_,h1,_,h2,rfl,rfl,v8.mpr ⟨aJ (by simp;omega),rfl,rfl⟩⟩
theorem wH {j l:Nat}{xs:List D}{v:Nat}(h1:Z[j]?.getD none=some (.lst xs))(h2:Z[l]?.getD none=some (nD v))(hz:xs.length<=100):cY false true false (af j) (af l) gN Z M=.ok (.lst (xs.drop v)) M:=by
 refine aF ?_
 simp only [mS,bf,cZ]
 exact ⟨_,h1,_,h2,rfl,rfl,A4.mpr ⟨aJ (by simp;omega),rfl,rfl⟩⟩
end
theorem Bx {m:bq}{i:Nat}(hi:i<m.deeds.length):lI m (nD i)=true:=by
 show (decide ((0:Int)<=(i:Int))&&decide ((i:Int)<=(m.deeds.length:Int)-1))=true
 rw [decide_eq_true (by omega),decide_eq_true (by omega)];rfl
def zeros (n:Nat):List D:=List.replicate n (.int 0)
end LD
namespace LD
open PySem
structure Good (b:Nat) (x:D):Prop where
 sh:(toPy x).showable=true
 short:PyData.leavesShort 40 (toPy x)=true
 bulk:(toPy x).bulk<=b
def yb (b:Nat)(x:D):Bool:=(toPy x).showable&&(PyData.leavesShort 40 (toPy x)&&decide ((toPy x).bulk<=b))
theorem B1 {b:Nat}{x:D}(h:yb b x=true):Good b x:=by
 unfold yb at h
 rw [Bool.and_eq_true,Bool.and_eq_true] at h
 exact ⟨h.1,h.2.1,of_decide_eq_true h.2.2⟩
theorem pS {b:Nat}:∀{ds:List D},(∀d∈ds,Good b d)->PyData.showableAll (bV ds)=true/\PyData.leavesShortAll 40 (bV ds)=true/\PyData.bulkAll (bV ds)<=(b+1)*ds.length
 |[],_=>⟨rfl,rfl,Nat.zero_le _⟩
 | d :: r, h => by
   obtain ⟨a2,a3,a4⟩:=pS (ds:=r) fun x hx=>h x (List.mem_cons_of_mem _ hx)
   obtain ⟨b2,b3,b4⟩:=h d List.mem_cons_self
   refine ⟨?_,?_,?_⟩
   ·show PyData.showableAll (toPy d::bV r)=true
    rw [PyData.showableAll,b2,a2];rfl
   ·show PyData.leavesShortAll 40 (toPy d::bV r)=true
    rw [PyData.leavesShortAll,b3,a3];rfl
   ·show PyData.bulkAll (toPy d::bV r)<=_
    rw [PyData.bulkAll,List.length_cons,Nat.mul_succ];omega
theorem Good.lst {b:Nat}{ds:List D}(h:∀d∈ds,Good b d):Good ((b+1)*ds.length) (.lst ds):=by
 obtain ⟨a2,a3,a4⟩:=pS h
 refine ⟨?_,?_,?_⟩
 ·show PyData.showable (.list (bV ds))=true
  rw [PyData.showable];exact a2
 ·show PyData.leavesShort 40 (.list (bV ds))=true
  rw [PyData.leavesShort];exact a3
 ·show PyData.bulk (.list (bV ds))<=_
  rw [PyData.bulk];exact a4
theorem Good.tup {b:Nat}{ds:List D}(h:∀d∈ds,Good b d):Good ((b+1)*ds.length) (.tup ds):=by
 obtain ⟨a2,a3,a4⟩:=pS h
 refine ⟨?_,?_,?_⟩
 ·show PyData.showable (.tuple (bV ds))=true
  rw [PyData.showable];exact a2
 ·show PyData.leavesShort 40 (.tuple (bV ds))=true
  rw [PyData.leavesShort];exact a3
 ·show PyData.bulk (.tuple (bV ds))<=_
  rw [PyData.bulk];exact a4
theorem Good.mono {b b':Nat}{x:D}(h:Good b x)(hb:b<=b'):Good b' x:=⟨h.sh,h.short,tqh h.bulk hb⟩
def pA (x:D):D:=.str (toPy x).shown
theorem DK {s:GA}{Z:Env}{M:Mem}{k L b:Nat}{x:D}(es:s Z M=.ok [x] M)(ht:Th k L x)(hk:k<=64)(hg:Good b x)(hb:b<=100000):gZ s Z M=.ok (pA x) M:=by
 have pu:aK 64 x=true:=(ht.mono hk (tqg _)).pure
 have vw:=qc M 64 64 x pu
 have hs:ot M x=true:=by
  unfold ot iZ
  rw [vw,pu,hg.sh,Bool.true_and,Bool.true_and]
  refine decide_eq_true ?_
  have h1:=PyData.shown_le_bulk 40 (by decide) (toPy x) hg.short
  have h2:=hg.bulk
  show _<=2^24
  omega
 unfold gZ
 rw [es]
 show (if ot M x=true then Res.ok (D.str (iZ M x)) M else .bad)=_
 rw [if_pos hs]
 unfold iZ pA
 rw [vw]
theorem He {x:D}{M:Mem}:bU .ne (pA x) (pA x) M=some false:=by
 show (mi M (.str _) (.str _)).map (!·)=_
 rw [rY]
 simp
def FH (m:bq):D->D
 | .lst ds => match ds.findIdx? fun d => !lI m d with
   |some i=>.exc 0 (some (i:Int))
   |none=>if 40<ds.length then .exc 4 none else .non
 |_=>.exc 0 (some 0)
theorem u5 {m:bq}:∀{ds:List D},(∀d∈ds,lI m d=true)->∃r:List Nat,ds=r.map nD/\∀i∈r,i<m.deeds.length
 |[],_=>⟨[],rfl,fun _ h=>nomatch h⟩
 | d :: ds, h => by
   obtain ⟨r,rfl,hr⟩:=u5 (ds:=ds) fun x hx=>h x (List.mem_cons_of_mem _ hx)
   have hd:=h d List.mem_cons_self
   cases d with
   | int i =>
     have hd:(decide ((0:Int)<=i)&&decide (i<=(m.deeds.length:Int)-1))=true:=hd
     rw [Bool.and_eq_true,decide_eq_true_eq,decide_eq_true_eq] at hd
     refine ⟨i.toNat::r,?_,fun j hj=>?_⟩
     ·show _=nD i.toNat::r.map nD
      rw [show nD i.toNat=D.int i by show D.int (i.toNat:Int)=_;rw [Int.toNat_of_nonneg hd.1]]
     ·rcases List.mem_cons.mp hj with rfl|hj
      ·omega
      ·exact hr j hj
   |_=>cases hd
inductive eV (m:bq):D->D->Prop
 |ok (r:List Nat) (h:lL m r):eV m (uO r) .non
 |long (ds:List D) (h:∀d∈ds,lI m d=true) (hl:40<ds.length):eV m (.lst ds) (.exc 4 none)
 |bad (ds:List D) (i:Nat) (x:D) (hx:ds[i]?=some x) (hb:lI m x=false) (hg:∀j y,j<i->ds[j]?=some y->lI m y=true):eV m (.lst ds) (.exc 0 (some (i:Int)))
 |not (x:D) (h:bZ .list x=some false):eV m x (.exc 0 (some 0))
theorem A9 {m:bq}{k L:Nat}{x:D}(hx:Th k L x):eV m x (FH m x):=by
 cases x with
 | lst ds =>
   show eV m _ (match ds.findIdx? fun d=>!lI m d with|some i=>D.exc 0 (some (i:Int))|none=>if 40<ds.length then .exc 4 none else .non)
   cases e:ds.findIdx? fun d=>!lI m d with
   | some i =>
     obtain ⟨hi,h1,h2⟩:=List.findIdx?_eq_some_iff_getElem.mp e
     refine .bad ds i ds[i] (List.getElem?_eq_getElem hi) (by simpa using h1) fun j y hj hy=>?_
     obtain ⟨hj',rfl⟩:=List.getElem?_eq_some_iff.mp hy
     simpa using h2 j hj
   | none =>
     have h1:=List.findIdx?_eq_none_iff.mp e
     have h2:∀d∈ds,lI m d=true:=fun d hd=>by simpa using h1 d hd
     show eV m _ (if 40<ds.length then D.exc 4 none else .non)
     by_cases c:40<ds.length
     ·rw [if_pos c];exact .long ds h2 c
     ·rw [if_neg c]
      obtain ⟨r,rfl,hr⟩:=u5 h2
      exact .ok r ⟨by simpa using c,hr⟩
 |frz ds=>cases k<;>exact hx.elim
 |cell j=>cases k<;>exact hx.elim
 |fn j=>cases k<;>exact hx.elim
 |exc y p=>cases k<;>exact hx.elim
 |_=>exact .not _ rfl
section
variable {P:Nat->Option Df}(h:HasM0 P){M:Mem}{m:bq}{k L:Nat}
include h
theorem BA (n:Nat){x v:D}(hm:cB m)(hx:Th (k+1) L x)(hL:L<=900000)(hv:eV m x v)(hn:v≠.non):aw P (n+9) 18 [m.d,x] M=.err v M:=by
 cases hv with
 |ok r hr=>exact absurd rfl hn
 |long ds hg hl=>exact Bb h n hm (Eg h (n+5) hx.2 hg) hl
 | bad ds i y hy hb hg =>
   have:=(List.getElem?_eq_some_iff.mp hy).1
   have:=hx.1
   exact uN h n hm (Bw h (n+5) hx.2 hy hb hg (by omega))
 |not x hi=>exact uN h n hm (Bv h (n+5) hi)
end
theorem Fm {m:bq}{Z:Env}{M:Mem}{j:Nat}(e:Z[j]?.getD none=some m.d):aA false .sub (bD .len (aa (aQ (af j) (gI 2)) aj)) (gI 1) Z M=.ok (.int ((m.deeds.length:Int)-1)) M:=by
 refine aF ?_
 simp only [dv,fg,bc,bB,g8,bf,cZ]
 refine ⟨_,e,.tup (m.deeds.map bt.d),rfl,oy.mpr (nr.mpr ⟨?_,rfl⟩)⟩
 rw [List.length_map]
theorem mP {ds:List D}{Z:Env}{M:Mem}{j:Nat}(e:Z[j]?.getD none=some (.lst ds)):bD .len (aa (af j) aj) Z M=.ok (nD ds.length) M:=by
 unfold bD
 rw [aC (aS e) rfl]
 rfl
section
variable {P:Nat->Option Df}(h:mY P){M:Mem}{m:bq}{k L:Nat}
include h
theorem Fp (h90:P 90=some ⟨2,4,cU⟩)(n:Nat){x v:D}(hm:cB m)(hx:Th (k+1) L x)(hL:L<=900000)(hv:eV m x v):aw P (n+6) 90 [m.d,x] M=.ok (nF v) M:=by
 refine aF (aM h90 rfl ?_)
 show aq (cU (aw P (n+5)) [some m.d,some x,none,none] M) _
 unfold cU
 have em:=sG h n (M:=M) (gn hm) (by decide) (by decide)
 rw [lC hm] at em
 refine aI (fC (b:=true) (eA (km rfl em))) ?_
 have body:∀{ds:List D}{y:D}{a:D},(Th k L y)->(ax 68 (aw P (n+5)) (aa (af 3) (aa (gI 0) (aa (aA false .sub (bD .len (aa (aQ (af 0) (gI 2)) aj)) (gI 1)) aj)))) [some m.d,some (.lst ds),some a,some y] M=.ok (.bl (lI m y)) M:=fun {ds y a} hy=>
  (cS (aC (aS rfl) (aC rfl (aC (Fm rfl) rfl)))).trans (jN h (n+3) hy _ _)
 cases hv with
 | not x hi =>
   refine bI (fC (b:=false) (eA ?_)) (v:=.lst [.str "row",.int 0]) rfl ⟨rfl,rfl⟩
   unfold cb
   show (dg M (bZ .list x)).bind _=_
   rw [hi];rfl
 | ok r hr =>
   refine aI rfl ?_
   simp only [aN,gJ,nq,bf]
   refine ⟨_,rfl,rfl,?_⟩
   refine eF (ds:=dD 0 (r.map nD)) (fun i Z M'=>M'=M/\∃a b,Z=[some m.d,some (uO r),a,b]) (fun _ _ _ e=>rfl) ⟨rfl,none,none,rfl⟩ ?_ ?_
   ·rintro i e Z M' he ⟨rfl,a,b,rfl⟩
    rw [fe] at he
    obtain ⟨y,hy,rfl⟩:=Option.map_eq_some_iff.mp he
    obtain ⟨q,hq,rfl⟩:=List.mem_map.mp (List.mem_of_getElem? hy)
    refine ⟨_,rfl,aI (fC (b:=true) (eA ?_)) ⟨_,rfl,rfl,_,_,rfl⟩⟩
    have:=body (ds:=r.map nD) (y:=nD q) (a:=.int ((0+i:Nat):Int)) (by cases k<;>trivial)
    rw [Bx (hr.2 q hq)] at this
    exact this
   ·rintro Z M' ⟨rfl,a,b,rfl⟩
    refine cR (v:=.non) ?_ ⟨rfl,rfl⟩
    unfold ic
    have e:(aG (aW .gt (bD .len (aa (af 1) aj)) (gI 40)):GT) [some m.d,some (uO r),a,b] M'=.ok false M':=by
     refine aU ?_
     simp only [iP,jf,cZ]
     rw [mP (ds:=r.map nD) rfl,du]
     refine ⟨_,rfl,_,rfl,decide_eq_false ?_,rfl⟩
     have:=hr.1
     simp;omega
    rw [e]
    rfl
 | long ds hg hl =>
   refine aI rfl ?_
   simp only [aN,gJ,nq,bf]
   refine ⟨_,rfl,rfl,?_⟩
   refine eF (ds:=dD 0 ds) (fun i Z M'=>M'=M/\∃a b,Z=[some m.d,some (.lst ds),a,b]) (fun _ _ _ e=>rfl) ⟨rfl,none,none,rfl⟩ ?_ ?_
   ·rintro i e Z M' he ⟨rfl,a,b,rfl⟩
    rw [fe] at he
    obtain ⟨y,hy,rfl⟩:=Option.map_eq_some_iff.mp he
    have hm':=List.mem_of_getElem? hy
    refine ⟨_,rfl,aI (fC (b:=true) (eA ?_)) ⟨_,rfl,rfl,_,_,rfl⟩⟩
    have:=body (ds:=ds) (y:=y) (a:=.int ((0+i:Nat):Int)) (hx.2 y hm')
    rw [hg y hm'] at this
    exact this
   ·rintro Z M' ⟨rfl,a,b,rfl⟩
    refine cR (v:=.lst [.str "long"]) ?_ ⟨rfl,rfl⟩
    unfold ic
    have e:(aG (aW .gt (bD .len (aa (af 1) aj)) (gI 40)):GT) [some m.d,some (.lst ds),a,b] M'=.ok true M':=by
     refine aU ?_
     simp only [iP,jf,cZ]
     rw [mP (ds:=ds) rfl,du]
     exact ⟨_,rfl,_,rfl,decide_eq_true (by omega),rfl⟩
    rw [e]
    rfl
 | bad ds i y hy hb hg =>
   refine aI rfl ?_
   simp only [aN,gJ,nq,bf]
   refine ⟨_,rfl,rfl,?_⟩
   refine Et (ds:=dD 0 ds) (fun j Z M'=>M'=M/\j<=i/\∃a b,Z=[some m.d,some (.lst ds),a,b]) (fun d M'=>d=.lst [.str "row",.int (i:Int)]/\M'=M) (fun _ _ _ e=>rfl) (fun _ _ _=>rfl) ⟨rfl,Nat.zero_le _,none,none,rfl⟩ ?_ ?_ ?_
   ·rintro j e Z M' he ⟨rfl,hj,a,b,rfl⟩
    rw [fe] at he
    obtain ⟨z,hz,rfl⟩:=Option.map_eq_some_iff.mp he
    have ez:=body (ds:=ds) (y:=z) (a:=.int ((0+j:Nat):Int)) (hx.2 z (List.mem_of_getElem? hz))
    refine ⟨_,rfl,?_⟩
    by_cases c:j=i
    ·subst c
     rw [hy] at hz;cases hz
     rw [hb] at ez
     refine bI (fC (b:=false) (eA ez)) (xP (aS rfl)) (.inr ⟨_,rfl,?_,rfl⟩)
     rw [Nat.zero_add]
    ·rw [hg j z (by omega) hz] at ez
     exact aI (fC (b:=true) (eA ez)) (.inl ⟨_,rfl,rfl,by omega,_,_,rfl⟩)
   ·rintro Z M' ⟨rfl,hj,_⟩
    have hlt:=(List.getElem?_eq_some_iff.mp hy).1
    have:(dD 0 ds).length=ds.length:=jd ds 0
    omega
   ·rintro d M' ⟨rfl,rfl⟩
    exact ⟨rfl,rfl⟩
end
theorem A5 {m:bq}{x v:D}(hv:eV m x v)(hn:v≠.non):∃i,v∈la i:=by
 cases hv with
 |ok r hr=>exact absurd rfl hn
 |long ds hg hl=>exact ⟨0,by simp [la]⟩
 |bad ds i y hy hb hg=>exact ⟨i,by simp [la]⟩
 |not x hi=>exact ⟨0,by simp [la]⟩
theorem DL {m:bq}{x v:D}(hv:eV m x v)(hn:v≠.non):lG (nF v)=false:=by
 cases hv with
 |ok r hr=>exact absurd rfl hn
 |long ds hg hl=>rfl
 |bad ds i y hy hb hg=>rfl
 |not x hi=>rfl
end LD
namespace LD
open PySem
theorem B2 {i:Int}{x:D}(h:x∈la i):∃c p,x=.exc c p:=by
 simp only [la,List.mem_cons,List.not_mem_nil,or_false] at h
 rcases h with rfl|rfl|rfl|rfl|rfl|rfl|rfl|rfl|rfl|rfl|rfl|rfl|rfl|rfl<;>exact ⟨_,_,rfl⟩
theorem vk {t:GT}{A B:GS}{Z:Env}{M:Mem}{b:Bool}{k:Fl->Mem->Prop}(ht:t Z M=.ok b M)(h:aq ((if b=true then A else B) Z M) k):aq (aZ t A B Z M) k:=by
 simp only [jP]
 rw [ht]
 cases b<;>exact h
def items:List D:=(List.range 20).map (fun (k:Nat)=>nD k)++[.int (-1),.int (-2),.int (10^20),.bl true,.bl false,.non,.str "0",.lst [.int 0],.tup [.int 0],.lst [],.str "",.str "turn",.str "join",.str "move",.str "put",.str "Turn",.tup []]
theorem jy {x:D}(h:x∈items):Th 2 200 x/\Good 5 x:=by
 have e:items.all (fun x=>ur 2 200 x&&yb 5 x)=true:=by decide +kernel
 have q:=List.all_eq_true.mp e x h
 rw [Bool.and_eq_true] at q
 exact ⟨qg q.1,B1 q.2⟩
theorem eh {i:Nat}(h:i<20):nD i∈items:=List.mem_append_left _ (List.mem_map.mpr ⟨i,List.mem_range.mpr h,rfl⟩)
structure Itm (n:Nat) (xs:List D):Prop where
 len:xs.length<=n
 all:∀x∈xs,x∈items
structure Thing (x:D):Prop where
 th:Th 3 200 x
 good:Good 10000 x
theorem Itm.lst {n:Nat}{xs:List D}(h:Itm n xs)(hn:n<=200):Thing (.lst xs):=by
 have:=h.len
 exact ⟨.lst_of (by omega) fun d hd=>(jy (h.all d hd)).1,(Good.lst fun d hd=>(jy (h.all d hd)).2).mono (by omega)⟩
theorem Itm.tup {n:Nat}{xs:List D}(h:Itm n xs)(hn:n<=200):Thing (.tup xs):=by
 have:=h.len
 exact ⟨.tup_of (by omega) fun d hd=>(jy (h.all d hd)).1,(Good.tup fun d hd=>(jy (h.all d hd)).2).mono (by omega)⟩
theorem Itm.app {n n':Nat}{xs ys:List D}(h:Itm n xs)(h':Itm n' ys):Itm (n+n') (xs++ys):=by
 have:=h.len
 have:=h'.len
 refine ⟨by rw [List.length_append];omega,fun x hx=>?_⟩
 rcases List.mem_append.mp hx with z|z
 ·exact h.all x z
 ·exact h'.all x z
theorem Itm.take {n:Nat}{xs:List D}(h:Itm n xs)(k:Nat):Itm n (xs.take k):=⟨by have:=h.len;rw [List.length_take];omega,fun x hx=>h.all x (List.mem_of_mem_take hx)⟩
theorem Itm.drop {n:Nat}{xs:List D}(h:Itm n xs)(k:Nat):Itm n (xs.drop k):=⟨by have:=h.len;rw [List.length_drop];omega,fun x hx=>h.all x (List.mem_of_mem_drop hx)⟩
theorem Itm.one {x:D}(h:x∈items):Itm 1 [x]:=⟨tqg _,fun y hy=>by rw [List.mem_singleton.mp hy];exact h⟩
theorem Itm.put {n k:Nat}{xs:List D}{x:D}(h:Itm n xs)(hx:x∈items):Itm (n+1) (xs.take k++[x]++xs.drop k):=by
 have:=h.len
 exact ⟨by simp;omega,(((h.take k).app (.one hx)).app (h.drop k)).all⟩
theorem Itm.mono {n n':Nat}{xs:List D}(h:Itm n xs)(hn:n<=n'):Itm n' xs:=⟨tqh h.len hn,h.all⟩
theorem Itm.zeros (n:Nat):Itm n (zeros n):=⟨by simp [LD.zeros],fun x hx=>by rw [(List.mem_replicate.mp hx).2];exact eh (i:=0) (by decide)⟩
theorem DH {m:bq}{r:List Nat}{n:Nat}(hm:cB m)(hr:∀i∈r,i<m.deeds.length)(hl:r.length<=n):Itm n (r.map nD):=by
 have:=hm.d6
 refine ⟨by rw [List.length_map];exact hl,fun x hx=>?_⟩
 obtain ⟨i,hi,rfl⟩:=List.mem_map.mp hx
 exact eh (by have:=hr i hi;omega)
section
variable {Z:Env}{M:Mem}{a b:GE}
theorem D5 {v c:Nat}(e:a Z M=.ok (nD v) M):aA false .add a (gC (.int (c:Int))) Z M=.ok (nD (v+c)) M:=by
 unfold aA
 rw [e]
 show Res.ok (D.int ((v:Int)+(c:Int))) M=_
 rw [show ((v:Int)+(c:Int))=((v+c:Nat):Int) by omega]
theorem Iw {xs:List D}{v:Nat}(h1:a Z M=.ok (.lst xs) M)(hz:xs.length<=1000):cY false false true a gN (gC (.int (v:Int))) Z M=.ok (.lst (xs.take v)) M:=by
 unfold cY
 rw [h1]
 refine aF ?_
 exact v8.mpr ⟨aJ (by simp;omega),rfl,rfl⟩
theorem wx {j:Nat}{xs:List D}(h:Z[j]?.getD none=some (.lst xs)):aA false .add (bD .len (aa (af j) aj)) (gI 1) Z M=.ok (nD (xs.length+1)) M:=D5 (c:=1) (mP h)
theorem E7 {xs ys:List D}(ea:a Z M=.ok (.lst xs) M)(eb:b Z M=.ok (.lst ys) M)(hl:(xs++ys).length<=1000):aA false .add a b Z M=.ok (.lst (xs++ys)) M:=by
 unfold aA
 rw [ea]
 show (b Z M).bind _=_
 rw [eb]
 show (if (xs++ys).length<=sz then (if false=true then _ else Res.ok (D.lst (xs++ys)) M) else .bad)=_
 rw [if_pos (aJ (by omega))]
 rfl
end
end LD
namespace LD
open PySem
theorem n4 {lo hi:Int}{d:D}(h:bg lo hi d=true)(h0:0<=lo):∃i:Nat,d=nD i/\lo<=(i:Int)/\(i:Int)<=hi:=by
 cases d with
 | int i =>
   have h:(decide (lo<=i)&&decide (i<=hi))=true:=h
   rw [Bool.and_eq_true,decide_eq_true_eq,decide_eq_true_eq] at h
   have e:((i.toNat:Nat):Int)=i:=Int.toNat_of_nonneg (Int.le_trans h0 h.1)
   exact ⟨i.toNat,by show D.int i=D.int _;rw [e],by rw [e];exact h.1,by rw [e];exact h.2⟩
 |_=>cases h
theorem rL {w:Nat}:∀{ds:List D},(∀d∈ds,bg 0 ((w:Int)-1) d=true)->∃t:List Nat,ds=t.map nD/\∀i∈t,i<w
 |[],_=>⟨[],rfl,fun _ h=>nomatch h⟩
 | d :: ds, h => by
   obtain ⟨r,rfl,hr⟩:=rL (ds:=ds) fun x hx=>h x (List.mem_cons_of_mem _ hx)
   obtain ⟨i,rfl,_,hi⟩:=n4 (h d List.mem_cons_self) (Int.le_refl _)
   refine ⟨i::r,rfl,fun j hj=>?_⟩
   rcases List.mem_cons.mp hj with rfl|hj
   ·omega
   ·exact hr j hj
theorem tab_of {w:Nat}{d:D}(h:hZ w d=true):∃t,d=bG t/\iB w t:=by
 cases d with
 | tup ds =>
   have h:(ds.length==w&&ds.all (bg 0 ((w:Int)-1)))=true:=h
   rw [Bool.and_eq_true,beq_iff_eq,List.all_eq_true] at h
   obtain ⟨t,rfl,ht⟩:=rL h.2
   exact ⟨t,rfl,by simpa using h.1,ht⟩
 |_=>cases h
theorem vZ {w:Nat}:∀{ds:List D},(∀d∈ds,hZ w d=true)->∃t:List (List Nat),ds=t.map bG/\∀x∈t,iB w x
 |[],_=>⟨[],rfl,fun _ h=>nomatch h⟩
 | d :: ds, h => by
   obtain ⟨r,rfl,hr⟩:=vZ (ds:=ds) fun x hx=>h x (List.mem_cons_of_mem _ hx)
   obtain ⟨t,rfl,ht⟩:=tab_of (h d List.mem_cons_self)
   refine ⟨t::r,rfl,fun x hx=>?_⟩
   rcases List.mem_cons.mp hx with rfl|hx
   ·exact ht
   ·exact hr x hx
theorem EG {w:Nat}{d:D}(h:jJ w d=true):∃t:List (List Nat),d=.tup (t.map bG)/\t.length=w/\∀x∈t,iB w x:=by
 cases d with
 | tup ds =>
   have h:(ds.length==w&&ds.all (hZ w))=true:=h
   rw [Bool.and_eq_true,beq_iff_eq,List.all_eq_true] at h
   obtain ⟨t,rfl,ht⟩:=vZ h.2
   exact ⟨t,rfl,by simpa using h.1,ht⟩
 |_=>cases h
theorem oK {d:D}(h:bg 1 3 d=true):∃c,d=nD c/\gk c:=by
 obtain ⟨c,rfl,h1,h2⟩:=n4 h (by decide)
 exact ⟨c,rfl,by omega,by omega⟩
theorem kY {p:Nat}{d:D}(h:bg 0 ((p:Int)-1) d=true):∃a,d=nD a/\a<p:=by
 obtain ⟨a,rfl,_,h2⟩:=n4 h (Int.le_refl _)
 exact ⟨a,rfl,by omega⟩
theorem ET {w p:Nat}{d:D}(h:fv w p d=true):∃e:bt,d=e.d/\cX w p e:=by
 match d,h with
 | .tup (.str s :: ds), h =>
   have h:cV w p s ds=true:=h
   by_cases c1:s="turn"
   ·subst c1
    rw [nN] at h
    match ds,h with
    | [a, t, c], h =>
      have h:(bg 0 ((p:Int)-1) a&&(hZ w t&&bg 1 3 c))=true:=h
      rw [Bool.and_eq_true,Bool.and_eq_true] at h
      obtain ⟨a,rfl,ha⟩:=kY h.1
      obtain ⟨t,rfl,ht⟩:=tab_of h.2.1
      obtain ⟨c,rfl,hc⟩:=oK h.2.2
      exact ⟨.turn a t c,rfl,ha,ht,hc⟩
   ·by_cases c2:s="join"
    ·subst c2
     rw [nM] at h
     match ds,h with
     | [a, o, t, c], h =>
       have h:(bg 0 ((p:Int)-1) a&&(bg 0 ((p:Int)-1) o&&(jJ w t&&bg 1 3 c)))=true:=h
       rw [Bool.and_eq_true,Bool.and_eq_true,Bool.and_eq_true] at h
       obtain ⟨a,rfl,ha⟩:=kY h.1
       obtain ⟨o,rfl,ho⟩:=kY h.2.1
       obtain ⟨t,rfl,ht⟩:=EG h.2.2.1
       obtain ⟨c,rfl,hc⟩:=oK h.2.2.2
       exact ⟨.join a o t c,rfl,ha,ho,ht,hc⟩
    ·by_cases c3:s="move"
     ·subst c3
      rw [nK] at h
      match ds,h with
      | [a, o, c], h =>
        have h:(bg 0 ((p:Int)-1) a&&(bg 0 ((p:Int)-1) o&&bg 1 3 c))=true:=h
        rw [Bool.and_eq_true,Bool.and_eq_true] at h
        obtain ⟨a,rfl,ha⟩:=kY h.1
        obtain ⟨o,rfl,ho⟩:=kY h.2.1
        obtain ⟨c,rfl,hc⟩:=oK h.2.2
        exact ⟨.move a o c,rfl,ha,ho,hc⟩
     ·by_cases c4:s="put"
      ·subst c4
       rw [nJ] at h
       match ds,h with
       | [a, x, c], h =>
         have h:(bg 0 ((p:Int)-1) a&&(bg 0 ((w:Int)-1) x&&bg 1 3 c))=true:=h
         rw [Bool.and_eq_true,Bool.and_eq_true] at h
         obtain ⟨a,rfl,ha⟩:=kY h.1
         obtain ⟨x,rfl,hx⟩:=kY h.2.1
         obtain ⟨c,rfl,hc⟩:=oK h.2.2
         exact ⟨.put a x c,rfl,ha,hx,hc⟩
      ·rw [uT c1 c2 c3 c4] at h
       cases h
theorem sX {w p:Nat}:∀{ds:List D},(∀d∈ds,fv w p d=true)->∃es:List bt,ds=es.map bt.d/\∀e∈es,cX w p e
 |[],_=>⟨[],rfl,fun _ h=>nomatch h⟩
 | d :: ds, h => by
   obtain ⟨r,rfl,hr⟩:=sX (ds:=ds) fun x hx=>h x (List.mem_cons_of_mem _ hx)
   obtain ⟨e,rfl,he⟩:=ET (h d List.mem_cons_self)
   refine ⟨e::r,rfl,fun x hx=>?_⟩
   rcases List.mem_cons.mp hx with rfl|hx
   ·exact he
   ·exact hr x hx
theorem Ek {d:D}(h:fu d=true):∃m:bq,d=m.d/\cB m:=by
 match d,h with
 | .tup [a, b, c], h =>
   have h:(bg 2 4 a&&(bg 1 2 b&&(gv c&&(qI c).all (fv (eL a) (eL b)))))=true:=h
   rw [Bool.and_eq_true,Bool.and_eq_true,Bool.and_eq_true] at h
   obtain ⟨h1,h2,h3,h4⟩:=h
   obtain ⟨w,rfl,w2,w4⟩:=n4 h1 (by decide)
   obtain ⟨p,rfl,p1,p2⟩:=n4 h2 (by decide)
   cases c with
   | tup ds =>
     have h3:(decide (1<=ds.length)&&decide (ds.length<=6))=true:=h3
     rw [Bool.and_eq_true,decide_eq_true_eq,decide_eq_true_eq] at h3
     have h4:ds.all (fv (eL (nD w)) (eL (nD p)))=true:=h4
     rw [List.all_eq_true] at h4
     obtain ⟨es,rfl,he⟩:=sX h4
     rw [List.length_map] at h3
     refine ⟨⟨w,p,es⟩,rfl,⟨?_,?_,?_,?_,h3.1,h3.2,he⟩⟩
     ·show 2<=w;omega
     ·show w<=4;omega
     ·show 1<=p;omega
     ·show p<=2;omega
   |_=>cases h3
end LD
namespace LD
open PySem
structure Ka (P:Nat->Option Df):Prop where
 m:HasM P
 p:HasP P
 t:HasT P
 w:mY P
 s:mZ P
 a:Mp P
 h35:P 35=some ⟨3,6,hJ⟩
 h75:P 75=some ⟨1,3,dM⟩
 h90:P 90=some ⟨2,4,cU⟩
 h94:P 94=some ⟨3,5,hG⟩
 h95:P 95=some ⟨3,4,tP⟩
 h96:P 96=some ⟨3,5,j8⟩
 h97:P 97=some ⟨1,12,E3⟩
theorem bO {y:D}(h:y∈[D.int (-1),.int (-2),.int (10^20),.bl true,.bl false,.non,.str "0",.lst [.int 0],.tup [.int 0],.lst [],.str "",.str "turn",.str "join",.str "move",.str "put",.str "Turn",.tup []]):y∈items:=List.mem_append_right _ h
theorem zA {x:D}(h:x∈eR):x∈items:=by
 simp only [eR,List.mem_cons,List.not_mem_nil,or_false] at h
 rcases h with rfl|rfl|rfl|rfl|rfl|rfl|rfl|rfl|rfl|rfl|rfl|rfl|rfl|rfl|rfl|rfl|rfl|rfl|rfl|rfl
 ·exact bO (by simp)
 ·exact bO (by simp)
 ·exact bO (by simp)
 ·exact bO (by simp)
 ·exact bO (by simp)
 ·exact bO (by simp)
 ·exact bO (by simp)
 ·exact bO (by simp)
 ·exact bO (by simp)
 ·exact bO (by simp)
 ·exact bO (by simp)
 ·exact bO (by simp)
 ·exact bO (by simp)
 ·exact eh (i:=0) (by decide)
 ·exact eh (i:=1) (by decide)
 ·exact eh (i:=4) (by decide)
 ·exact bO (by simp)
 ·exact bO (by simp)
 ·exact bO (by simp)
 ·exact eh (i:=7) (by decide)
theorem u6 {v:Nat}(h:v<9):D.int ((v:Int)-2)∈items:=by
 match v,h with
 |0,_=>exact bO (by simp)
 |1,_=>exact bO (by simp)
 |v+2,h=>rw [show (((v+2:Nat):Int)-2)=((v:Nat):Int) by omega];exact eh (by omega)
theorem wB {a i:GE}{Z:Env}{M:Mem}{xs:List D}{v:Nat}(ea:a Z M=.ok (.lst xs) M)(ei:i Z M=.ok (nD v) M)(h:v<xs.length):aQ a i Z M=.ok xs[v] M:=by
 unfold aQ
 rw [ea]
 show (i Z M).bind _=_
 rw [ei]
 show dg M (fo (.lst xs) (nD v) M)=_
 rw [oA h];rfl
section
variable {P:Nat->Option Df}{M:Mem}
theorem pF (hp_:HasP P)(ht_:HasT P)(hw_:mY P)(n:Nat){p B:Nat}(hp:aO M p B)(hB:B<=700000):aq (aw P (n+6) 72 [.cell p,.int 0,.int 0] M) fun d M'=>d∈items/\aO M' p (B+3)/\bE p M M':=by
 refine aM ht_.bent rfl ?_
 show aq (ip (aw P (n+5)) [some (.cell p),some (.int 0),some (.int 0),none,none,none,none,none,none] M) _
 unfold ip
 refine fB hp_ (n+3) (many:=8) rfl rfl hp (by omega) (by decide) (by decide) fun kind M1 hkd q1 k1=>?_
 refine fB hp_ (n+3) (many:=20) rfl rfl q1 (by omega) (by decide) (by decide) fun pick M2 hpk q2 k2=>?_
 refine fm (k:=fun d M'=>∃v:Nat,d=.int ((v:Int)-2)/\v<9/\aO M' p (B+3)/\bE p M2 M') ?_ ?_
 ·rw [dv]
  refine bb (je hp_ (n+3) (many:=9) rfl rfl q2 (by omega) (by decide) (by decide)) ?_
  rintro _ M' ⟨v,rfl,hv,q,kk⟩
  simp only [cZ]
  exact nr.mpr ⟨v,rfl,hv,q,kk⟩
 rintro _ M3 ⟨v,rfl,hv,q3,k3⟩
 refine aI rfl ?_
 show aq (ah _ (ah _ (ks (aw P (n+5)))) [some (.cell p),some (.int 0),some (.int 0),some (nD kind),some (nD pick),some (.int ((v:Int)-2)),none,none,none] M3) _
 refine sO ?_
 unfold ks
 refine aI rfl (ja (eA (km rfl (lu hw_ (n+4) (k:=0) (L:=0) (d:=.int 0) trivial))) ?_)
 have hl:pick<eR.length:=hpk
 refine cR (wB (xs:=[.int 1,.int (-1),.int 0,.int ((v:Int)-2),.int ((v:Int)-2),.bl false,.int 3,eR[pick]]) (jT (aC rfl (aC rfl (aC rfl (aC (aS rfl) (aC (aS rfl) (aC rfl (aC rfl (aC (wB (aS rfl) (aS rfl) hl) rfl)))))))) (tqq rfl)) (aS rfl) hkd) ⟨?_,q3,(k1.trans k2).trans k3⟩
 have mem:∀x∈[D.int 1,.int (-1),.int 0,.int ((v:Int)-2),.int ((v:Int)-2),.bl false,.int 3,eR[pick]],x∈items:=fun x hx=>by
  simp only [List.mem_cons,List.not_mem_nil,or_false] at hx
  rcases hx with rfl|rfl|rfl|rfl|rfl|rfl|rfl|rfl
  ·exact eh (i:=1) (by decide)
  ·exact bO (by simp)
  ·exact eh (i:=0) (by decide)
  ·exact u6 hv
  ·exact u6 hv
  ·exact bO (by simp)
  ·exact eh (i:=3) (by decide)
  ·exact zA (List.getElem_mem hl)
 exact mem _ (List.getElem_mem _)
theorem Thing.item {x:D}(h:x∈items):Thing x:=⟨(jy h).1.mono (by decide) (by decide),(jy h).2.mono (by decide)⟩
variable (h:Ka P)
include h
theorem Kg (n:Nat){p B:Nat}{m:bq}{rs:List D}(hr:Itm 40 rs)(hp:aO M p B)(hB:B<=600000):aq (aw P (n+7) 96 [.cell p,m.d,.lst rs] M) fun d M'=>Thing d/\aO M' p (B+10):=by
 have hl:=hr.len
 refine aM h.h96 rfl ?_
 show aq (j8 (aw P (n+6)) [some (.cell p),some m.d,some (.lst rs),none,none] M) _
 unfold j8
 refine fB h.p (n+4) (many:=5) rfl rfl hp (by omega) (by decide) (by decide) fun way M1 hwy q1 _=>?_
 refine fB h.p (n+4) (many:=rs.length+1) rfl (wx rfl) q1 (by omega) (by omega) (by omega) fun at_ M2 hat q2 _=>?_
 show aq (ah _ _ [some (.cell p),some m.d,some (.lst rs),some (nD way),some (nD at_)] M2) _
 refine di (kj (c:=0) rfl) (fun _=>cR (aS rfl) ⟨hr.lst (by decide),q2.mono (by omega)⟩) fun c0=>?_
 refine di (kj (c:=1) rfl) (fun _=>?_) fun c1=>?_
 ·have i4:Itm 81 (rs++zeros 41):=hr.app (.zeros 41)
  have l4:=i4.len
  exact cR (Iw (v:=41) (E7 (ys:=zeros 41) (aS rfl) rfl (by omega)) (by omega)) ⟨(i4.take 41).lst (by decide),q2.mono (by omega)⟩
 refine di (kj (c:=2) rfl) (fun _=>?_) fun c2=>?_
 ·simp only [aN,cx]
  have el:ba false (aa gN (aa (bD .tuple (aa (af 2) aj)) (aa (gS "0") (aa (gI 7) (aa (bh aj) aj))))) [some (.cell p),some m.d,some (.lst rs),some (nD way),some (nD at_)] M2=.ok (.lst [.non,.tup rs,.str "0",.int 7,.tup []]) M2:=jT (aC rfl (aC rfl (aC rfl (aC rfl (aC rfl rfl))))) (tqq rfl)
  refine bb (BY h.p (n+4) (many:=5) rfl rfl q2 (by omega) (by decide) (by decide) el rfl) ?_
  rintro d M3 ⟨hd,q3,_⟩
  refine ⟨?_,q3.mono (by omega)⟩
  simp only [List.mem_cons,List.not_mem_nil,or_false] at hd
  rcases hd with rfl|rfl|rfl|rfl|rfl
  ·exact .item (bO (by simp))
  ·exact hr.tup (by decide)
  ·exact .item (bO (by simp))
  ·exact .item (eh (i:=7) (by decide))
  ·exact .item (bO (by simp))
 ·have hw:way=3\/way=4:=by
   have c0:¬ ((way:Int)=0):=by simpa using c0
   have c1:¬ ((way:Int)=1):=by simpa using c1
   have c2:¬ ((way:Int)=2):=by simpa using c2
   omega
  obtain ⟨z,ez,hz⟩:∃z,(∀M',aA false .mul (ba false (aa (gI 0) aj)) (aA false .mul (gI 40) (aA false .sub (af 3) (gI 3))) [some (.cell p),some m.d,some (.lst rs),some (nD way),some (nD at_)] M'=.ok (.lst (zeros z)) M')/\z<=40:=by
   rcases hw with rfl|rfl
   ·exact ⟨0,fun _=>rfl,by decide⟩
   ·exact ⟨40,fun _=>rfl,by decide⟩
  simp only [aN,cx]
  rw [dv,dv,dv,Cy (xs:=rs) (v:=at_) rfl rfl (by omega),du,lH,bc]
  rw [cS (aC (aS rfl) (aC rfl (aC rfl rfl)))]
  refine bb (pF h.p h.t h.w n q2 (by omega)) ?_
  rintro x M3 ⟨hx,q3,_⟩
  simp only [bB]
  refine bW.mpr ⟨aJ (n:=1) (by decide),jZ.mpr (bW.mpr ⟨aJ (by simp;omega),?_⟩)⟩
  rw [wH (xs:=rs) (v:=at_) rfl rfl (by omega),du]
  refine jZ.mpr (bW.mpr ⟨aJ (by simp;omega),?_⟩)
  rw [ez,du]
  have i5:Itm 81 (rs.take at_++[x]++rs.drop at_++zeros z):=((hr.put hx).app (Itm.mono (.zeros z) hz))
  have l5:=i5.len
  exact jZ.mpr (bW.mpr ⟨aJ (by omega),i5.lst (by decide),q3.mono (by omega)⟩)
omit h in
theorem Nq (h94:P 94=some ⟨3,5,hG⟩)(n:Nat){d x y v:D}{M':Mem}(e:aw P n 48 [d,x,y] M=.ok v M'):aw P (n+1) 94 [d,x,y] M=.ok (.lst [.str "told"]) M':=by
 refine aU (aM h94 rfl ?_)
 show aq (hG (aw P n) [some d,some x,some y,none,none] M) _
 unfold hG
 refine cp (lj rfl) ?_
 show aq (ah _ _ [some d,some x,some y,some .non,none] M) _
 simp only [aN,uK,eZ,dZ,bc,bB,bf]
 refine ⟨_,rfl,_,rfl,_,rfl,?_⟩
 rw [e]
 exact ⟨rfl,rfl⟩
omit h in
theorem E1 (h27:P 27=some ⟨2,2,dB⟩)(n:Nat){d r x:D}(e:aw P n 18 [d,r] M=.err x M):aw P (n+1) 27 [d,r] M=.err x M:=by
 refine fc (fU h27 rfl ?_)
 show aq (dB (aw P n) [some d,some r] M) _
 unfold dB
 simp only [aN,eZ,dZ,bc,bB,bf]
 refine ⟨_,rfl,_,rfl,?_⟩
 rw [e]
 exact ⟨rfl,rfl⟩
omit h in
theorem nB (hs:mZ P)(n:Nat){z:Str}(hz:aK 64 (.str z)=true):aw P (n+2) 40 [.lst [.str z],.lst [.str z]] M=.ok (.bl true) M:=
 qi hs (n+1) (aJ (n:=1) (by decide)) fun d hd=>by rw [List.mem_singleton.mp hd];exact sE hs n hz
omit h in
theorem zb (hs:mZ P)(n:Nat){m:bq}{x v:D}(hv:eV m x v)(hn:v≠.non):aw P (n+2) 40 [nF v,nF v] M=.ok (.bl true) M:=by
 have row:∀i:Int,aw P (n+2) 40 [.lst [.str "row",.int i],.lst [.str "row",.int i]] M=.ok (.bl true) M:=fun i=>by
  refine qi hs (n+1) (aJ (n:=2) (by decide)) fun d hd=>?_
  rcases List.mem_cons.mp hd with rfl|hd
  ·exact sE hs n (by decide +kernel)
  ·rw [List.mem_singleton.mp hd];exact yV hs n i
 cases hv with
 |ok r hr=>exact absurd rfl hn
 |long ds hg hl=>exact nB hs n (by decide +kernel)
 |bad ds i y hy hb hg=>exact row i
 |not x hi=>exact row 0
end
end LD
namespace LD
open PySem
abbrev se (m:bq):D->Bool:=pN m.places 0 ((m.words:Int)-1)
theorem IB {m:bq}{d:D}(h:se m d=true):∃s,d=bG s/\jD m s:=by
 cases d with
 | tup ds =>
   have h:(ds.length==m.places&&ds.all (bg 0 ((m.words:Int)-1)))=true:=h
   rw [Bool.and_eq_true,beq_iff_eq,List.all_eq_true] at h
   obtain ⟨t,rfl,ht⟩:=rL h.2
   exact ⟨t,rfl,by simpa using h.1,ht⟩
 |_=>cases h
structure ud (P:Nat->Option Df):Prop where
 m:HasM P
 p:HasP P
 t:HasT P
 w:mY P
 s:mZ P
 h14:P 14=some ⟨2,5,eG⟩
 h15:P 15=some ⟨1,6,dF⟩
 h26:P 26=some ⟨3,3,iy⟩
 h27:P 27=some ⟨2,2,dB⟩
 h46:P 46=some ⟨2,2,fO⟩
 h35:P 35=some ⟨3,6,hJ⟩
 h75:P 75=some ⟨1,3,dM⟩
 h90:P 90=some ⟨2,4,cU⟩
 h98:P 98=some ⟨4,6,cT⟩
 h99:P 99=some ⟨4,5,de⟩
 h100:P 100=some ⟨1,17,mn⟩
section
variable {P:Nat->Option Df}{M:Mem}{m:bq}{k L:Nat}{d r x t:D}
theorem Dv (h:HasM0 P)(h14:P 14=some ⟨2,5,eG⟩)(n:Nat)(ht:Th k L d)(hL:L<=100):aw P (n+3) 14 [m.d,d] M=.ok (.bl (se m d)) M:=by
 refine aF (aM h14 rfl ?_)
 show aq (eG (aw P (n+2)) [some m.d,some d,none,none,none] M) _
 unfold eG
 refine cp rfl ?_
 show aq (ah _ _ [some m.d,some d,some (nD m.words),some (nD m.places),some (.tup (m.deeds.map bt.d))] M) _
 have e1:=lY h.q (n+1) (w:=m.places) (M:=M) ht
 cases d with
 | tup ds =>
   have hl:=ht.tup
   exact cR (gU (fw rfl rfl e1) fun _=>all_eq (ds:=ds) (bg 0 ((m.words:Int)-1)) ⟨rfl,rfl⟩ (aJ (by omega)) fun x hx=>fw rfl rfl (pD h.q n (hl.2 x hx))) ⟨rfl,rfl⟩
 |_=>exact cR (gU (y:=false) (fw rfl rfl e1) fun z=>nomatch z) ⟨rfl,rfl⟩
theorem DG (h26:P 26=some ⟨3,3,iy⟩)(n:Nat){v:D}(e:aw P n 18 [d,r] M=.err v M):aw P (n+1) 26 [d,r,x] M=.err v M:=by
 refine fc (fU h26 rfl ?_)
 show aq (iy (aw P n) [some d,some r,some x] M) _
 unfold iy
 simp only [aN,eZ,dZ,bc,bB,bf]
 refine ⟨_,rfl,_,rfl,?_⟩
 rw [e]
 exact ⟨rfl,rfl⟩
theorem A8 (h26:P 26=some ⟨3,3,iy⟩)(n:Nat)(e:aw P n 18 [d,r] M=.ok .non M)(e2:aw P n 14 [d,x] M=.ok (.bl false) M):aw P (n+1) 26 [d,r,x] M=.err (.exc 5 none) M:=by
 refine fc (fU h26 rfl ?_)
 show aq (iy (aw P n) [some d,some r,some x] M) _
 unfold iy
 simp only [aN,eZ,dZ,bc,bB,bf]
 refine ⟨_,rfl,_,rfl,?_⟩
 rw [e]
 refine ja (fC (b:=false) (eA (fw rfl rfl e2))) ?_
 exact ⟨rfl,rfl⟩
theorem FG (h26:P 26=some ⟨3,3,iy⟩)(n:Nat){v:D}{M':Mem}(e:aw P n 18 [d,r] M=.ok .non M)(e2:aw P n 14 [d,x] M=.ok (.bl true) M)(e3:aw P n 25 [d,r,x] M=.ok v M'):aw P (n+1) 26 [d,r,x] M=.ok v M':=by
 refine aU (aM h26 rfl ?_)
 show aq (iy (aw P n) [some d,some r,some x] M) _
 unfold iy
 simp only [aN,eZ,dZ,bc,bB,bf]
 refine ⟨_,rfl,_,rfl,?_⟩
 rw [e]
 refine aI (fC (b:=true) (eA (fw rfl rfl e2))) ?_
 simp only [aN,cx]
 rw [cS (aC (aS rfl) (aC (aS rfl) (aC (aS rfl) rfl))),e3]
 exact ⟨rfl,rfl⟩
def AL (c:Call)(a:Nat)(d x t:D)(M:Mem):Res D:=if a=0 then c 26 [d,x,t] M else c 27 [d,x] M
theorem CC (h98:P 98=some ⟨4,6,cT⟩)(n:Nat){a:Nat}{v:D}{M':Mem}(ha:a=0\/a=1)(e:AL (aw P n) a d x t M=.ok v M'):aw P (n+1) 98 [nD a,d,x,t] M=.ok (.lst [.str "told"]) M':=by
 refine aU (aM h98 rfl ?_)
 show aq (cT (aw P n) [some (nD a),some d,some x,some t,none,none] M) _
 unfold cT
 refine cp (lj rfl) ?_
 show aq (ah _ _ [some (nD a),some d,some x,some t,some .non,none] M) _
 simp only [aN,uK]
 rcases ha with rfl|rfl
 ·refine vk (b:=true) rfl ?_
  show aq (ah _ _ [some (nD 0),some d,some x,some t,some .non,none] M) _
  simp only [aN,eZ,dZ,bc,bB,bf]
  refine ⟨_,rfl,_,rfl,_,rfl,?_⟩
  rw [show aw P n 26 [d,x,t] M=.ok v M' from e]
  exact ⟨rfl,rfl⟩
 ·refine vk (b:=false) rfl ?_
  show aq (ah _ _ [some (nD 1),some d,some x,some t,some .non,none] M) _
  simp only [aN,eZ,dZ,bc,bB,bf]
  refine ⟨_,rfl,_,rfl,?_⟩
  rw [show aw P n 27 [d,x] M=.ok v M' from e]
  exact ⟨rfl,rfl⟩
theorem ux (h98:P 98=some ⟨4,6,cT⟩)(h75:P 75=some ⟨1,3,dM⟩)(n:Nat){a:Nat}{v:D}{i:Int}(ha:a=0\/a=1)(hv:v∈la i)(e:AL (aw P (n+1)) a d x t M=.err v M):aw P (n+2) 98 [nD a,d,x,t] M=.ok (nF v) M:=by
 have er:=wZ h75 n (M:=M) hv
 obtain ⟨c,p,rfl⟩:=B2 hv
 refine aF (aM h98 rfl ?_)
 show aq (cT (aw P (n+1)) [some (nD a),some d,some x,some t,none,none] M) _
 unfold cT
 refine cp (lj rfl) ?_
 show aq (ah _ _ [some (nD a),some d,some x,some t,some .non,none] M) _
 have fin:aq (ah (aY (ic (aG (aW .isN (af 4) gN)) (ba false (aa (gS "told") aj)) (ax 75 (aw P (n+1)) (aa (af 4) aj)))) av [some (nD a),some d,some x,some t,some (.exc c p),none] M) (jA fun y M'=>y=nF (.exc c p)/\M'=M):=by
  refine cR ?_ ⟨rfl,rfl⟩
  show ax 75 (aw P (n+1)) (aa (af 4) aj) [some (nD a),some d,some x,some t,some (.exc c p),none] M=_
  exact km rfl er
 simp only [aN,uK]
 rcases ha with rfl|rfl
 ·refine vk (b:=true) rfl ?_
  show aq (ah _ _ [some (nD 0),some d,some x,some t,some .non,none] M) _
  simp only [aN,eZ,dZ,bc,bB,bf]
  refine ⟨_,rfl,_,rfl,_,rfl,?_⟩
  rw [show aw P (n+1) 26 [d,x,t] M=.err (.exc c p) M from e]
  exact fin
 ·refine vk (b:=false) rfl ?_
  show aq (ah _ _ [some (nD 1),some d,some x,some t,some .non,none] M) _
  simp only [aN,eZ,dZ,bc,bB,bf]
  refine ⟨_,rfl,_,rfl,?_⟩
  rw [show aw P (n+1) 27 [d,x] M=.err (.exc c p) M from e]
  exact fin
theorem zZ (h99:P 99=some ⟨4,5,de⟩)(n:Nat){a v:D}(e:aw P n 90 [d,x] M=.ok v M)(hv:lG v=false):aw P (n+1) 99 [a,d,x,t] M=.ok v M:=by
 refine aF (aM h99 rfl ?_)
 show aq (de (aw P n) [some a,some d,some x,some t,none] M) _
 unfold de
 refine cp (lj (fw rfl rfl e)) ?_
 have t':(aG (aW .notN (af 4) gN):GT) [some a,some d,some x,some t,some v] M=.ok (!lG v) M:=rfl
 rw [hv] at t'
 exact bI t' (aS rfl) ⟨rfl,rfl⟩
theorem Ib (hw:mY P)(h99:P 99=some ⟨4,5,de⟩)(n:Nat){a:Nat}(ha:a=0\/a=1)(e:aw P (n+3) 90 [m.d,x] M=.ok .non M)(ht:Th k L t)(hL:L<=100):aw P (n+4) 99 [nD a,m.d,x,t] M=.ok (if a=0/\se m t=false then .lst [.str "word"] else .lst [.str "told"]) M:=by
 refine aF (aM h99 rfl ?_)
 show aq (de (aw P (n+3)) [some (nD a),some m.d,some x,some t,none] M) _
 unfold de
 refine cp (lj (fw rfl rfl e)) (aI rfl ?_)
 show aq (ah _ _ [some (nD a),some m.d,some x,some t,some .non] M) _
 have en:=oo hw n (M:=M) ht hL (many:=m.places) 0 ((m.words:Int)-1)
 have e69:ax 69 (aw P (n+3)) (aa (af 3) (aa (aQ (af 1) (gI 1)) (aa (gI 0) (aa (aA false .sub (aQ (af 1) (gI 0)) (gI 1)) aj)))) [some (nD a),some m.d,some x,some t,some .non] M=.ok (.bl (se m t)) M:=(cS (aC (aS rfl) (aC rfl (aC rfl (aC rfl rfl))))).trans en
 rcases ha with rfl|rfl
 ·cases hb:se m t with
  | true =>
    rw [hb] at e69
    refine aI (sj (x:=true) (y:=false) rfl (fC (b:=true) (eA e69))) (cR (v:=.lst [.str "told"]) rfl ⟨?_,rfl⟩)
    rw [if_neg (fun z=>nomatch z.2)]
  | false =>
    rw [hb] at e69
    refine bI (sj (x:=true) (y:=true) rfl (fC (b:=false) (eA e69))) (v:=.lst [.str "word"]) rfl ⟨?_,rfl⟩
    rw [if_pos ⟨rfl,rfl⟩]
 ·refine aI (ID (b:=false) rfl (fun z=>nomatch z)) (cR (v:=.lst [.str "told"]) rfl ⟨?_,rfl⟩)
  rw [if_neg (fun z=>nomatch z.1)]
theorem B7 (h:ud P)(n:Nat)(hd:Th k L d)(hk:k<=60)(hL:L+1<=100)(hb:fu d=false):aw P (n+6) 90 [d,x] M=.ok (.lst [.str "machine"]) M:=by
 refine aF (aM h.h90 rfl ?_)
 show aq (cU (aw P (n+5)) [some d,some x,none,none] M) _
 unfold cU
 have em:=sG h.w n (M:=M) hd hk hL
 rw [hb] at em
 exact bI (fC (b:=false) (eA (km rfl em))) rfl ⟨rfl,rfl⟩
theorem sZ (h:ud P){a:Nat}(ha:a=0\/a=1){k' L':Nat}(hd:Th k L d)(hk:k<=60)(hL:L+1<=100)(hx:Thing x)(ht:Th k' L' t)(hL':L'<=100):∃v,∀M:Mem,∃M',aw P 39 99 [nD a,d,x,t] M=.ok v M/\aw P 39 98 [nD a,d,x,t] M=.ok v M'/\Sub M M'/\aw P 39 40 [v,v] M'=.ok (.bl true) M':=by
 have bad:∀{v:D}{M:Mem},aw P 37 18 [d,x] M=.err v M->AL (aw P 38) a d x t M=.err v M:=fun {v M} e=>by
  rcases ha with rfl|rfl
  ·exact DG h.h26 37 e
  ·exact E1 h.h27 37 e
 cases hb:fu d with
 | false =>
   refine ⟨.lst [.str "machine"],fun M=>⟨M,zZ h.h99 38 (B7 h 32 hd hk hL hb) rfl,?_,.refl,nB h.s 37 (by decide +kernel)⟩⟩
   exact ux h.h98 h.h75 37 (i:=0) (v:=.exc 3 none) ha (by simp [la]) (bad (Ba h.m 28 hd (by omega) hb))
 | true =>
   obtain ⟨m,rfl,hm⟩:=Ek hb
   have hv:=A9 (m:=m) hx.th
   generalize FH m x=v at hv
   have d1:=fun M=>Fp h.w h.h90 32 (M:=M) hm hx.th (by decide) hv
   by_cases hn:v=.non
   ·subst hn
    have d2:=fun M=>Ib h.w h.h99 35 ha (d1 M) ht hL'
    cases hv with
    | ok r hr =>
      have e18:=fun M=>Fo h.m.toHasM0 28 (M:=M) hm hr
      have e14:=fun M=>Dv h.m.toHasM0 h.h14 34 (m:=m) (M:=M) ht hL'
      rcases ha with rfl|rfl
      ·cases hg:se m t with
       | false =>
         rw [hg] at e14
         rw [if_pos ⟨rfl,hg⟩] at d2
         exact ⟨_,fun M=>⟨M,d2 M,ux h.h98 h.h75 37 (i:=0) (v:=.exc 5 none) (.inl rfl) (by simp [la]) (A8 h.h26 37 (e18 M) (e14 M)),.refl,nB h.s 37 (by decide +kernel)⟩⟩
       | true =>
         rw [hg] at e14
         rw [if_neg (fun z=>by rw [hg] at z;exact nomatch z.2)] at d2
         obtain ⟨s,rfl,hs⟩:=IB hg
         exact ⟨_,fun M=>⟨_,d2 M,CC h.h98 38 (.inl rfl) (FG h.h26 37 (e18 M) (e14 M) (oV h.m 34 .l hm (tqh hr.1 (by decide)) hr.2 hs)),Sub.app,nB h.s 37 (by decide +kernel)⟩⟩
      ·rw [if_neg (fun z=>nomatch z.1)] at d2
       exact ⟨_,fun M=>⟨_,d2 M,CC h.h98 38 (.inr rfl) (Fq h.m h.h15 h.h27 h.h46 27 hm hr),Sub.app,nB h.s 37 (by decide +kernel)⟩⟩
   ·obtain ⟨i,hi⟩:=A5 hv hn
    exact ⟨nF v,fun M=>⟨M,zZ h.h99 38 (d1 M) (DL hv hn),ux h.h98 h.h75 37 ha hi (bad (BA h.m 28 hm hx.th (by decide) hv hn)),.refl,zb h.s 37 hv hn⟩⟩
end
end LD
namespace LD
open PySem
def oh (c:D):Prop:=∃d x t,c=.tup [d,x,t]/\Th 7 7 d/\Thing x/\Th 9 60 t
def c7 (M:Mem)(q n:Nat):Prop:=∃cs,M[q]?=some cs/\cs.length<=n/\∀c∈cs,oh c
def kn (M:Mem)(o:Nat):Prop:=∃d x t,M[o]?=some [d,x,t]/\Th 7 7 d/\Thing x/\Th 9 60 t
theorem c7.keep {M M':Mem}{p q n:Nat}(h:c7 M q n)(k:bE p M M')(hq:q≠p):c7 M' q n:=let ⟨cs,e,r⟩:=h;⟨cs,k.get e hq,r⟩
theorem kn.keep {M M':Mem}{p o:Nat}(h:kn M o)(k:bE p M M')(hq:o≠p):kn M' o:=let ⟨d,x,t,e,r⟩:=h;⟨d,x,t,k.get e hq,r⟩
section
variable {Z:Env}{M:Mem}{a b c:GE}{s:GA}{kf:Fl->Mem->Prop}
theorem fA {x y z:D}(e1:a Z M=.ok x M)(e2:b Z M=.ok y M)(e3:c Z M=.ok z M):bh (aa a (aa b (aa c aj))) Z M=.ok (.tup [x,y,z]) M:=by
 unfold bh
 rw [aC e1 (aC e2 (aC e3 rfl))]
 exact (if_pos (aJ (n:=3) (by decide)):(if 3<=sz then Res.ok (D.tup [x,y,z]) M else .bad)=_)
theorem wu {xs:List D}(es:s Z M=.ok xs M)(hl:xs.length<=100):ba true s Z M=.ok (.cell M.length) (M++[xs]):=by
 unfold ba
 rw [es]
 exact (if_pos (aJ (by omega)):(if xs.length<=sz then Res.ok (D.cell M.length) (M++[xs]) else .bad)=_)
theorem wU {j q:Nat}{xs ys:List D}(e:Z[j]?.getD none=some (.cell q))(em:M[q]?=some xs)(eb:b Z M=.ok (.lst ys) M)(hl:(xs++ys).length<=100):aA true .add (af j) b Z M=.ok (.cell M.length) (M++[xs++ys]):=by
 unfold aA
 rw [aS e]
 show (b Z M).bind _=_
 rw [eb]
 show (match M[q]?,some ys with|some x,some y=>bQ true (x++y) M|_,_=>.bad)=_
 rw [em]
 exact (if_pos (aJ (by omega)):(if (xs++ys).length<=sz then Res.ok (D.cell M.length) (M++[xs++ys]) else .bad)=_)
theorem mJ {rest:GS}{i:Nat}{x:D}{M':Mem}(e:a Z M=.ok x M')(h:aq (rest (Z.set i (some x)) M') kf):aq (ah (aP (.one i) a) rest Z M) kf:=by
 simp only [aN]
 unfold aP
 rw [e]
 exact h
end
theorem mL {M:Mem}{xs:List D}:(M++[xs])[M.length]?=some xs:=List.getElem?_concat_length
theorem rh {M:Mem}{p B o j:Nat}{g:GE}{Z:Env}{rest:GS}{K:Fl->Mem->Prop}(e11:Z[11]?.getD none=some (.cell o))(hj:j<3)(ho:p<o)(h1:kn M o)
 (hg:aq (g Z M) fun x M'=>(j=0->Th 7 7 x)/\(j=1->Thing x)/\(j=2->Th 9 60 x)/\aO M' p B/\bE p M M')
 (hk:∀M',aO M' p B->kn M' o->(∀q n,q≠p->q≠o->c7 M q n->c7 M' q n)->aq (rest Z M') K):aq (ah (dW (af 11) (gC (.int (j:Int))) g) rest Z M) K:=by
 simp only [aN,zc]
 refine bb hg fun x M' ⟨c0,c1,c2,q,k⟩=>?_
 simp only [bf,cZ]
 obtain ⟨d,y,t,e,h7,hy,ht⟩:=h1.keep k (by omega)
 refine ⟨_,e11,o,(j:Int),[d,y,t],j,rfl,rfl,e,fG hj,?_⟩
 have lt:=(List.getElem?_eq_some_iff.mp e).1
 refine hk _ (q.setq ho) ?_ fun q' n h1 h2 hc=>?_
 ·match j,hj,c0,c1,c2 with
  |0,_,c0,_,_=>exact ⟨x,y,t,List.getElem?_set_self lt,c0 rfl,hy,ht⟩
  |1,_,_,c1,_=>exact ⟨d,x,t,List.getElem?_set_self lt,h7,c1 rfl,ht⟩
  |2,_,_,_,c2=>exact ⟨d,y,x,List.getElem?_set_self lt,h7,hy,c2 rfl⟩
 ·obtain ⟨cs,ec,r⟩:=hc.keep k h1
  exact ⟨cs,by rw [List.getElem?_set_ne (Ne.symm h2)];exact ec,r⟩
def Fg (c:Call):GS:=(ah (aP (.one 10) (ax 31 c (aa (af 1) (aa (gI 7) aj)))) (ah (aP (.one 11) (ba true (aa (af 3) (aa (af 4) (aa (af 5) aj))))) (ah (aZ (aG (aW .isin (af 10) (bh (aa (gI 0) (aa (gI 3) (aa (gI 4) aj)))))) (ah (dW (af 11) (gI 0) (ax 72 c (aa (af 1) (aa (af 3) (aa (gI 5) aj))))) av) av) (ah (aZ (aG (aW .isin (af 10) (bh (aa (gI 1) (aa (gI 3) (aa (gI 5) (aa (gI 6) aj))))))) (ah (dW (af 11) (gI 1) (aA false .add (af 4) (ba false (aa (ax 72 c (aa (af 1) (aa (gI 0) (aa (gI 0) aj)))) aj)))) av) av) (ah (aZ (aG (aW .isin (af 10) (bh (aa (gI 2) (aa (gI 4) (aa (gI 5) aj)))))) (ah (dW (af 11) (gI 2) (ax 72 c (aa (af 1) (aa (af 5) (aa (gI 1) aj))))) av) av) (ah (iH (af 8) (bh (aa (aQ (af 11) (gI 0)) (aa (aQ (af 11) (gI 1)) (aa (aQ (af 11) (gI 2)) aj))))) av))))))
section
variable {P:Nat->Option Df}{M:Mem}(h:ud P)
include h
theorem Dj {m:bq}{rs:List D}{tb:D}{q n B:Nat}{x0 x2 x6 x7 x9 x10 x11 x12 x13 x14 x15 x16:Option D}(hm:cB m)(hr:Itm 6 rs)(ht:Th 2 6 tb)(hq:1<q)(hc:c7 M q n)(hn:n<=90)(hp:aO M 1 B)(hB:B<=600000) :
 aq (Fg (aw P 39) [x0,some (.cell 1),x2,some m.d,some (.lst rs),some tb,x6,x7,some (.cell q),x9,x10,x11,x12,x13,x14,x15,x16] M) fun fl M'=>(∃z10 z11,fl=.next [x0,some (.cell 1),x2,some m.d,some (.lst rs),some tb,x6,x7,some (.cell q),x9,z10,z11,x12,x13,x14,x15,x16])/\aO M' 1 (B+60)/\c7 M' q (n+1):=by
 have hl:=hr.len
 unfold Fg
 refine fB h.p 37 (many:=7) rfl rfl hp (by omega) (by decide) (by decide) fun way M1 hwy q1 k1=>?_
 have c1:=hc.keep k1 (by omega)
 have o1:kn (M1++[[m.d,.lst rs,tb]]) M1.length:=⟨_,_,_,mL,(gn hm).mono (by decide) (by decide),hr.lst (by decide),ht.mono (by decide) (by decide)⟩
 have lp:=q1.lt
 have lq:q<M1.length:=by obtain ⟨cs,e,_⟩:=c1;exact (List.getElem?_eq_some_iff.mp e).1
 have c2:c7 (M1++[[m.d,.lst rs,tb]]) q n:=c1.keep (p:=1) bE.app (by omega)
 refine mJ (wu (xs:=[m.d,.lst rs,tb]) (aC (aS rfl) (aC (aS rfl) (aC (aS rfl) rfl))) (tqq rfl)) ?_
 have q2:aO (M1++[[m.d,.lst rs,tb]]) 1 (B+1):=q1.app
 generalize M1++[[m.d,.lst rs,tb]]=M2 at o1 c2 q2
 generalize M1.length=o at o1 lq lp
 show aq (ah _ _ [x0,some (.cell 1),x2,some m.d,some (.lst rs),some tb,x6,x7,some (.cell q),x9,some (nD way),some (.cell o),x12,x13,x14,x15,x16] M2) _
 have fin:∀M3:Mem,aO M3 1 (B+60)->kn M3 o->c7 M3 q n->aq (ah (iH (af 8) (bh (aa (aQ (af 11) (gI 0)) (aa (aQ (af 11) (gI 1)) (aa (aQ (af 11) (gI 2)) aj))))) av [x0,some (.cell 1),x2,some m.d,some (.lst rs),some tb,x6,x7,some (.cell q),x9,some (nD way),some (.cell o),x12,x13,x14,x15,x16] M3) fun fl M'=>(∃z10 z11,fl=.next [x0,some (.cell 1),x2,some m.d,some (.lst rs),some tb,x6,x7,some (.cell q),x9,z10,z11,x12,x13,x14,x15,x16])/\aO M' 1 (B+60)/\c7 M' q (n+1):=by
  rintro M3 q3 ⟨d,x,t,e3,hd,hx,ht⟩ ⟨cs,ec,cl,ca⟩
  have ix:∀{i:Int}{z:D},(bR 3 i).bind (fun j=>[d,x,t][j]?)=some z->aQ (af 11) (gC (.int i)) [x0,some (.cell 1),x2,some m.d,some (.lst rs),some tb,x6,x7,some (.cell q),x9,some (nD way),some (.cell o),x12,x13,x14,x15,x16] M3=.ok z M3:=fun {i z} ez=>by
   refine aF ?_
   simp only [g8,bf,cZ]
   refine ⟨_,rfl,z,?_,rfl,trivial⟩
   show (M3[o]?).bind (fun ds=>(bR ds.length i).bind fun j=>ds[j]?)=_
   rw [e3]
   exact ez
  simp only [aN,uM,bf]
  refine ⟨_,rfl,?_⟩
  rw [fA (ix (i:=0) rfl) (ix (i:=1) rfl) (ix (i:=2) rfl),du]
  refine ⟨q,cs,rfl,ec,Nat.lt_of_le_of_lt (show cs.length<=100 by omega) (by decide),⟨_,_,rfl⟩,q3.setq hq,cs++[.tup [d,x,t]],List.getElem?_set_self (List.getElem?_eq_some_iff.mp ec).1,by rw [List.length_append];exact Nat.succ_le_succ cl,fun z hz=>?_⟩
  rcases List.mem_append.mp hz with hz|hz
  ·exact ca z hz
  ·rw [List.mem_singleton.mp hz];exact ⟨d,x,t,rfl,hd,hx,ht⟩
 have s3:∀M3:Mem,aO M3 1 (B+45)->kn M3 o->c7 M3 q n->aq (ah (aZ (aG (aW .isin (af 10) (bh (aa (gI 2) (aa (gI 4) (aa (gI 5) aj)))))) (ah (dW (af 11) (gI 2) (ax 72 (aw P 39) (aa (af 1) (aa (af 5) (aa (gI 1) aj))))) av) av) (ah (iH (af 8) (bh (aa (aQ (af 11) (gI 0)) (aa (aQ (af 11) (gI 1)) (aa (aQ (af 11) (gI 2)) aj))))) av) [x0,some (.cell 1),x2,some m.d,some (.lst rs),some tb,x6,x7,some (.cell q),x9,some (nD way),some (.cell o),x12,x13,x14,x15,x16] M3) fun fl M'=>(∃z10 z11,fl=.next [x0,some (.cell 1),x2,some m.d,some (.lst rs),some tb,x6,x7,some (.cell q),x9,z10,z11,x12,x13,x14,x15,x16])/\aO M' 1 (B+60)/\c7 M' q (n+1):=by
  intro M3 q3 o3 c3
  refine di rfl (fun _=>?_) fun _=>fin M3 (q3.mono (by omega)) o3 c3
  refine rh (j:=2) (p:=1) (B:=B+60) rfl (by decide) lp o3 ?_ fun M4 q4 o4 k4=>fin M4 q4 o4 (k4 q n (by omega) (by omega) c3)
  rw [cS (aC (aS rfl) (aC (aS rfl) (aC rfl rfl)))]
  exact bb (oq h.p h.t h.w 1 32 (by decide) ht (by decide) (by decide) (by decide) q3 (by omega)) fun x M' ⟨a,b,c⟩=>⟨(fun z=>nomatch z),(fun z=>nomatch z),(fun _=>a.mono (by decide) (by decide)),b.mono (by omega),c⟩
 have s2:∀M3:Mem,aO M3 1 (B+40)->kn M3 o->c7 M3 q n->aq (ah (aZ (aG (aW .isin (af 10) (bh (aa (gI 1) (aa (gI 3) (aa (gI 5) (aa (gI 6) aj))))))) (ah (dW (af 11) (gI 1) (aA false .add (af 4) (ba false (aa (ax 72 (aw P 39) (aa (af 1) (aa (gI 0) (aa (gI 0) aj)))) aj)))) av) av) (ah (aZ (aG (aW .isin (af 10) (bh (aa (gI 2) (aa (gI 4) (aa (gI 5) aj)))))) (ah (dW (af 11) (gI 2) (ax 72 (aw P 39) (aa (af 1) (aa (af 5) (aa (gI 1) aj))))) av) av) (ah (iH (af 8) (bh (aa (aQ (af 11) (gI 0)) (aa (aQ (af 11) (gI 1)) (aa (aQ (af 11) (gI 2)) aj))))) av)) [x0,some (.cell 1),x2,some m.d,some (.lst rs),some tb,x6,x7,some (.cell q),x9,some (nD way),some (.cell o),x12,x13,x14,x15,x16] M3) fun fl M'=>(∃z10 z11,fl=.next [x0,some (.cell 1),x2,some m.d,some (.lst rs),some tb,x6,x7,some (.cell q),x9,z10,z11,x12,x13,x14,x15,x16])/\aO M' 1 (B+60)/\c7 M' q (n+1):=by
  intro M3 q3 o3 c3
  refine di rfl (fun _=>?_) fun _=>s3 M3 (q3.mono (by omega)) o3 c3
  refine rh (j:=1) (p:=1) (B:=B+45) rfl (by decide) lp o3 ?_ fun M4 q4 o4 k4=>s3 M4 q4 o4 (k4 q n (by omega) (by omega) c3)
  rw [dv,aS (x:=.lst rs) rfl,du,lH,bc,cS (aC (aS rfl) (aC rfl (aC rfl rfl)))]
  refine bb (pF h.p h.t h.w 33 q3 (by omega)) ?_
  rintro x M' ⟨hx,q4,k4⟩
  simp only [bB]
  have i5:Itm 7 (rs++[x]):=hr.app (.one hx)
  have l5:=i5.len
  exact bW.mpr ⟨aJ (n:=1) (by decide),jZ.mpr (bW.mpr ⟨aJ (by omega),(fun z=>nomatch z),(fun _=>i5.lst (by decide)),(fun z=>nomatch z),q4.mono (by omega),k4⟩)⟩
 refine di rfl (fun _=>?_) fun _=>s2 M2 (q2.mono (by omega)) o1 c2
 refine rh (j:=0) (p:=1) (B:=B+40) rfl (by decide) lp o1 ?_ fun M4 q4 o4 k4=>s2 M4 q4 o4 (k4 q n (by omega) (by omega) c2)
 rw [cS (aC (aS rfl) (aC (aS rfl) (aC rfl rfl)))]
 exact bb (oq h.p h.t h.w 5 28 (by decide) (gn hm) (by decide) (by decide) (by decide) q2 (by omega)) fun x M' ⟨a,b,c⟩=>⟨fun _=>a,(fun z=>nomatch z),(fun z=>nomatch z),b.mono (by omega),c⟩
end
def CO (c:Call):GS:=(ah (aP (.one 15) (gZ (aa (af 13) aj))) (ah (aP (.one 16) (ax 99 c (aa (af 6) (aa (af 12) (aa (af 13) (aa (af 14) aj)))))) (ah (aZ (eJ (bT (aG (ax 40 c (aa (ax 98 c (aa (af 6) (aa (af 12) (aa (af 13) (aa (af 14) aj))))) (aa (af 16) aj))))) (aG (aW .ne (gZ (aa (af 13) aj)) (af 15)))) rF av) av)))
def CV (c:Call):GS:=(ah (aZ (bT (aG (ax 40 c (aa (ax 98 c (aa (gI 0) (aa (af 3) (aa (af 4) (aa (af 14) aj))))) (aa (ax 99 c (aa (gI 0) (aa (af 3) (aa (af 4) (aa (af 14) aj))))) aj))))) rF av) av)
section
variable {P:Nat->Option Df}{M:Mem}(h:ud P)
include h
theorem AK {d x t:D}{a:Nat}{x0 x1 x2 x3 x4 x5 x7 x8 x9 x10 x11 x15 x16:Option D}(ha:a=0\/a=1)(hd:Th 7 7 d)(hx:Thing x)(ht:Th 9 60 t):aq (CO (aw P 39) [x0,x1,x2,x3,x4,x5,some (nD a),x7,x8,x9,x10,x11,some d,some x,some t,x15,x16] M) fun fl M'=>(∃z15 z16,fl=.next [x0,x1,x2,x3,x4,x5,some (nD a),x7,x8,x9,x10,x11,some d,some x,some t,z15,z16])/\Sub M M':=by
 obtain ⟨r,hr⟩:=sZ h ha hd (by decide) (by decide) hx ht (by decide)
 obtain ⟨M',e1,e2,S,e3⟩:=hr M
 have l2:∀{Z:Env}{M:Mem},Z[13]?.getD none=some x->gZ (aa (af 13) aj) Z M=.ok (pA x) M:=fun {Z M} a=>DK (aC (aS a) rfl) hx.th (by decide) hx.good (by decide)
 have c4:∀{f:Nat}{y:D}{Z:Env}{M M2:Mem},Z[6]?.getD none=some (nD a)->Z[12]?.getD none=some d->Z[13]?.getD none=some x->Z[14]?.getD none=some t->aw P 39 f [nD a,d,x,t] M=.ok y M2->ax f (aw P 39) (aa (af 6) (aa (af 12) (aa (af 13) (aa (af 14) aj)))) Z M=.ok y M2:=fun {f y Z M M2} a b c d e=>(cS (aC (aS a) (aC (aS b) (aC (aS c) (aC (aS d) rfl))))).trans e
 unfold CO
 refine cp (lj (l2 rfl)) (cp (lj (c4 rfl rfl rfl rfl e1)) ?_)
 show aq (ah _ _ [x0,x1,x2,x3,x4,x5,some (nD a),x7,x8,x9,x10,x11,some d,some x,some t,some (pA x),some r] M) _
 refine wA (R:=fun M2=>M2=M') ?_ ?_
 ·simp only [AN,tV,iP]
  rw [ff,bc,c4 rfl rfl rfl rfl e2,du]
  show aq (aw P 39 40 [r,r] M') _
  rw [e3,du]
  refine ⟨true,rfl,?_⟩
  show aq (aW .ne (gZ (aa (af 13) aj)) (af 15) [x0,x1,x2,x3,x4,x5,some (nD a),x7,x8,x9,x10,x11,some d,some x,some t,some (pA x),some r] M') _
  rw [jf,l2 rfl,du]
  simp only [bf]
  exact ⟨_,rfl,_,He,_,rfl,rfl,trivial⟩
 ·rintro _ rfl
  exact ⟨⟨_,_,rfl⟩,S⟩
theorem BQ {m:bq}{x t:D}{x0 x1 x2 x5 x6 x7 x8 x9 x10 x11 x12 x13 x15 x16:Option D}(hm:cB m)(hx:Thing x)(ht:Th 9 60 t):aq (CV (aw P 39) [x0,x1,x2,some m.d,some x,x5,x6,x7,x8,x9,x10,x11,x12,x13,some t,x15,x16] M) fun fl M'=>fl=.next [x0,x1,x2,some m.d,some x,x5,x6,x7,x8,x9,x10,x11,x12,x13,some t,x15,x16]/\Sub M M':=by
 obtain ⟨r,hr⟩:=sZ h (a:=0) (.inl rfl) (gn hm) (by decide) (by decide) hx ht (by decide)
 obtain ⟨M',e1,e2,S,e3⟩:=hr M
 obtain ⟨M2,e4,_⟩:=hr M'
 have c4:∀{f:Nat}{y:D}{Z:Env}{M M2:Mem},Z[3]?.getD none=some m.d->Z[4]?.getD none=some x->Z[14]?.getD none=some t->aw P 39 f [nD 0,m.d,x,t] M=.ok y M2->ax f (aw P 39) (aa (gI 0) (aa (af 3) (aa (af 4) (aa (af 14) aj)))) Z M=.ok y M2:=fun {f y Z M M2} b c d e=>(cS (aC rfl (aC (aS b) (aC (aS c) (aC (aS d) rfl))))).trans e
 unfold CV
 refine wA (R:=fun M2=>M2=M') ?_ ?_
 ·simp only [tV,iP]
  rw [ff,bc,c4 rfl rfl rfl e2,du,bc,c4 rfl rfl rfl e4,du]
  show aq (aw P 39 40 [r,r] M') _
  rw [e3,du]
  exact ⟨true,rfl,rfl,rfl⟩
 ·rintro _ rfl
  exact ⟨rfl,S⟩
omit h in
theorem vh {Z:Env}{j:Nat}{ds:List D}(e:Z[j]?.getD none=some (.tup ds)):cY false false true (af j) gN (fT (gI 1)) Z M=.ok (.tup (ds.take (ds.length-1))) M:=by
 refine aF ?_
 simp only [mS,bf,cZ,yj]
 exact ⟨_,e,1,rfl,rfl,rfl,A1 ⟨rfl,rfl⟩⟩
omit h in
theorem jh {d x t:D}(hd:Th 7 7 d)(hx:Thing x)(ht:Th 9 60 t):oh (.tup [d,x,t]):=⟨d,x,t,rfl,hd,hx,ht⟩
noncomputable def CH (c:Call):GS:=(ah (iH (af 8) (bh (aa (af 3) (aa (aA false .add (aA false .add (aA false .add (cY false false true (af 4) gN (af 6)) (ba false (aa (ax 72 c (aa (af 1) (aa (gI 0) (aa (gI 0) aj)))) aj))) (cY false true false (af 4) (af 6) gN)) (ba false (aa (fT (gI 1)) aj))) (aa (af 5) aj))))) (ah (eQ (.one 9) (d7 (gI 6)) (ah (aP (.one 10) (ax 31 c (aa (af 1) (aa (gI 7) aj)))) (ah (aP (.one 11) (ba true (aa (af 3) (aa (af 4) (aa (af 5) aj))))) (ah (aZ (aG (aW .isin (af 10) (bh (aa (gI 0) (aa (gI 3) (aa (gI 4) aj)))))) (ah (dW (af 11) (gI 0) (ax 72 c (aa (af 1) (aa (af 3) (aa (gI 5) aj))))) av) av) (ah (aZ (aG (aW .isin (af 10) (bh (aa (gI 1) (aa (gI 3) (aa (gI 5) (aa (gI 6) aj))))))) (ah (dW (af 11) (gI 1) (aA false .add (af 4) (ba false (aa (ax 72 c (aa (af 1) (aa (gI 0) (aa (gI 0) aj)))) aj)))) av) av) (ah (aZ (aG (aW .isin (af 10) (bh (aa (gI 2) (aa (gI 4) (aa (gI 5) aj)))))) (ah (dW (af 11) (gI 2) (ax 72 c (aa (af 1) (aa (af 5) (aa (gI 1) aj))))) av) av) (ah (iH (af 8) (bh (aa (aQ (af 11) (gI 0)) (aa (aQ (af 11) (gI 1)) (aa (aQ (af 11) (gI 2)) aj))))) av))))))) (ah (eQ (.tup [12,13,14]) (fS (af 8)) (ah (eQ (.one 6) (d7 (gI 2)) (ah (aP (.one 15) (gZ (aa (af 13) aj))) (ah (aP (.one 16) (ax 99 c (aa (af 6) (aa (af 12) (aa (af 13) (aa (af 14) aj)))))) (ah (aZ (eJ (bT (aG (ax 40 c (aa (ax 98 c (aa (af 6) (aa (af 12) (aa (af 13) (aa (af 14) aj))))) (aa (af 16) aj))))) (aG (aW .ne (gZ (aa (af 13) aj)) (af 15)))) rF av) av)))) av)) (ah (eQ (.one 14) (fS (ba false (aa (ba false (aa (aQ (af 5) (gI 0)) aj)) (aa gN (aa mf (aa (gI 0) (aa (gS "0") (aa (aA false .mul (bh (aa mf aj)) (aQ (af 3) (gI 1))) (aa (aA false .add (af 5) (bh (aa (gI 0) aj))) (aa (bh aj) aj)))))))))) (ah (aZ (bT (aG (ax 40 c (aa (ax 98 c (aa (gI 0) (aa (af 3) (aa (af 4) (aa (af 14) aj))))) (aa (ax 99 c (aa (gI 0) (aa (af 3) (aa (af 4) (aa (af 14) aj))))) aj))))) rF av) av)) av))))
theorem Bc {m:bq}{rs ts:List D}{bad:D}{q at_ B b0:Nat}{br:List D}{x0 x2 x9 x10 x11 x12 x13 x14 x15 x16:Option D}(hm:cB m)(hr:Itm 6 rs)(htb:Th 2 6 (.tup ts))(htl:ts.length<=2)(hin:∀x∈ts,Th 8 60 x)(hb0:ts=nD b0::br)(tb:Th 7 7 bad)(hq:1<q)(hp:aO M 1 B)(hB:B<=500000)(hc:c7 M q 10) :
 aq (CH (aw P 39) [x0,some (.cell 1),x2,some m.d,some (.lst rs),some (.tup ts),some (nD at_),some bad,some (.cell q),x9,x10,x11,x12,x13,x14,x15,x16] M) fun fl M'=>(∃y6 y9 y10 y11 y12 y13 y14 y15 y16,fl=.next [x0,some (.cell 1),x2,some m.d,some (.lst rs),some (.tup ts),y6,some bad,some (.cell q),y9,y10,y11,y12,y13,y14,y15,y16])/\aO M' 1 (B+500):=by
 have hrl:=hr.len
 have p1:=hm.p1
 have p2:=hm.p2
 have t9:Th 9 60 (.tup ts):=htb.mono (by decide) (by decide)
 unfold CH
 simp only [aN,uM,bf]
 refine ⟨_,rfl,?_⟩
 rw [g7,bc,aS (x:=m.d) rfl,du,bc,dv,dv,dv,Cy (xs:=rs) (v:=at_) rfl rfl (by omega),du,lH,bc,cS (aC (aS rfl) (aC rfl (aC rfl rfl)))]
 refine bb (pF h.p h.t h.w 33 hp (by omega)) ?_
 rintro x M1 ⟨hx,q1,k1⟩
 simp only [bB]
 refine bW.mpr ⟨aJ (n:=1) (by decide),jZ.mpr (bW.mpr ⟨aJ (by simp;omega),?_⟩)⟩
 rw [wH (xs:=rs) (v:=at_) rfl rfl (by omega),du]
 refine jZ.mpr (bW.mpr ⟨aJ (by simp;omega),?_⟩)
 rw [jT (xs:=[.int (-1)]) (aC rfl rfl) (tqq rfl),du]
 refine jZ.mpr (bW.mpr ⟨aJ (by simp;omega),?_⟩)
 rw [bc,aS (x:=.tup ts) rfl,du]
 simp only [bB]
 obtain ⟨cs,ec,cl,ca⟩:=hc.keep k1 (by omega)
 have i8:Itm 8 (rs.take at_++[x]++rs.drop at_++[.int (-1)]):=((hr.put hx).app (.one (bO (by simp))))
 have lc:=(List.getElem?_eq_some_iff.mp ec).1
 refine ⟨aJ (n:=3) (by decide),q,cs,rfl,ec,Nat.lt_of_le_of_lt (show cs.length<=100 by omega) (by decide),?_⟩
 have c2:c7 (M1.set q (cs++[.tup [m.d,.lst (rs.take at_++[x]++rs.drop at_++[.int (-1)]),.tup ts]])) q 11:=⟨_,List.getElem?_set_self lc,by rw [List.length_append];exact Nat.succ_le_succ cl,fun z hz=>by
  rcases List.mem_append.mp hz with hz|hz
  ·exact ca z hz
  ·rw [List.mem_singleton.mp hz];exact jh ((gn hm).mono (by decide) (by decide)) (i8.lst (by decide)) t9⟩
 have q2:aO (M1.set q (cs++[.tup [m.d,.lst (rs.take at_++[x]++rs.drop at_++[.int (-1)]),.tup ts]])) 1 (B+3):=q1.setq hq
 generalize M1.set q (cs++[.tup [m.d,.lst (rs.take at_++[x]++rs.drop at_++[.int (-1)]),.tup ts]])=M2 at c2 q2
 show aq (ah _ _ [x0,some (.cell 1),x2,some m.d,some (.lst rs),some (.tup ts),some (nD at_),some bad,some (.cell q),x9,x10,x11,x12,x13,x14,x15,x16] M2) _
 simp only [aN,gJ,iO,cZ]
 refine ⟨6,rfl,by decide,?_⟩
 refine eF (ds:=(List.range 6).map fun (k:Nat)=>D.int (k:Int)) (fun k Z M'=>aO M' 1 (B+3+k*60)/\c7 M' q (11+k)/\∃x9 x10 x11 x12 x13 x14 x15 x16,Z=[x0,some (.cell 1),x2,some m.d,some (.lst rs),some (.tup ts),some (nD at_),some bad,some (.cell q),x9,x10,x11,x12,x13,x14,x15,x16]) (fun _ _ _ _=>rfl) ⟨q2,c2,_,_,_,_,_,_,_,_,rfl⟩ ?_ ?_
 ·rintro k dk Z M3 hk ⟨q3,c3,x9,x10,x11,x12,x13,x14,x15,x16,rfl⟩
  have hk6:k<6:=by
   have:=(List.getElem?_eq_some_iff.mp hk).1
   simpa using this
  refine ⟨_,rfl,bb (Dj h (M:=M3) (x0:=x0) (x2:=x2) (x6:=some (nD at_)) (x7:=some bad) (x9:=some dk) (x10:=x10) (x11:=x11) (x12:=x12) (x13:=x13) (x14:=x14) (x15:=x15) (x16:=x16) hm hr htb hq c3 (by omega) q3 (by omega)) ?_⟩
  rintro fl M4 ⟨⟨z10,z11,rfl⟩,q4,c4⟩
  exact ⟨_,rfl,q4.mono (by omega),c4,_,_,_,_,_,_,_,_,rfl⟩
 rintro Z M3 ⟨q3,c3,x9,x10,x11,x12,x13,x14,x15,x16,rfl⟩
 simp only [List.length_map,List.length_range] at q3 c3
 obtain ⟨cs,ec,cl,ca⟩:=c3
 have q3:aO M3 1 (B+500):=q3.mono (by omega)
 show aq (ah _ _ [x0,some (.cell 1),x2,some m.d,some (.lst rs),some (.tup ts),some (nD at_),some bad,some (.cell q),x9,x10,x11,x12,x13,x14,x15,x16] M3) _
 simp only [aN,gJ,Cu,bf]
 refine ⟨_,rfl,rfl,?_⟩
 refine eF (ds:=cs) (fun _ Z M'=>aO M' 1 (B+500)/\M'[q]?=some cs/\∃y6 x9 x10 x11 x12 x13 x14 x15 x16,Z=[x0,some (.cell 1),x2,some m.d,some (.lst rs),some (.tup ts),y6,some bad,some (.cell q),x9,x10,x11,x12,x13,x14,x15,x16]) (fun _ _ _ e=>e.2.1) ⟨q3,ec,_,_,_,_,_,_,_,_,_,rfl⟩ ?_ ?_
 ·rintro j c Z M4 hj ⟨q4,e4,y6,x9,x10,x11,x12,x13,x14,x15,x16,rfl⟩
  obtain ⟨d,x,t,rfl,hd,hx,ht⟩:=ca c (List.mem_of_getElem? hj)
  refine ⟨_,rfl,?_⟩
  simp only [aN,gJ,iO,cZ]
  refine ⟨2,rfl,by decide,?_⟩
  refine eF (ds:=(List.range 2).map fun (k:Nat)=>D.int (k:Int)) (fun _ Z M'=>aO M' 1 (B+500)/\M'[q]?=some cs/\∃y6 x15 x16,Z=[x0,some (.cell 1),x2,some m.d,some (.lst rs),some (.tup ts),y6,some bad,some (.cell q),x9,x10,x11,some d,some x,some t,x15,x16]) (fun _ _ _ _=>rfl) ⟨q4,e4,_,_,_,rfl⟩ ?_ ?_
  ·rintro a da Z M5 hda ⟨q5,e5,y6,x15,x16,rfl⟩
   have ha2:a<2:=by
    have:=(List.getElem?_eq_some_iff.mp hda).1
    simpa using this
   obtain rfl:da=nD a:=by
    rw [List.getElem?_map,List.getElem?_range ha2] at hda
    exact (Option.some.inj hda).symm
   refine ⟨_,rfl,bb (AK h (M:=M5) (a:=a) (x0:=x0) (x1:=some (.cell 1)) (x2:=x2) (x3:=some m.d) (x4:=some (.lst rs)) (x5:=some (.tup ts)) (x7:=some bad) (x8:=some (.cell q)) (x9:=x9) (x10:=x10) (x11:=x11) (x15:=x15) (x16:=x16) (by omega) hd hx ht) ?_⟩
   rintro fl M6 ⟨⟨z15,z16,rfl⟩,S⟩
   exact ⟨_,rfl,S.pen q5,S.get e5,_,_,_,rfl⟩
  ·rintro Z M5 ⟨q5,e5,y6,x15,x16,rfl⟩
   exact ⟨_,rfl,q5,e5,_,_,_,_,_,_,_,_,_,rfl⟩
 rintro Z M4 ⟨q4,e4,y6,x9,x10,x11,x12,x13,x14,x15,x16,rfl⟩
 show aq (ah _ _ [x0,some (.cell 1),x2,some m.d,some (.lst rs),some (.tup ts),y6,some bad,some (.cell q),x9,x10,x11,x12,x13,x14,x15,x16] M4) _
 have el:ba false (aa (ba false (aa (aQ (af 5) (gI 0)) aj)) (aa gN (aa mf (aa (gI 0) (aa (gS "0") (aa (aA false .mul (bh (aa mf aj)) (aQ (af 3) (gI 1))) (aa (aA false .add (af 5) (bh (aa (gI 0) aj))) (aa (bh aj) aj)))))))) [x0,some (.cell 1),x2,some m.d,some (.lst rs),some (.tup ts),y6,some bad,some (.cell q),x9,x10,x11,x12,x13,x14,x15,x16] M4=.ok (.lst [.lst [nD b0],.non,.bl true,.int 0,.str "0",.tup (List.replicate m.places (.bl true)),.tup (ts++[.int 0]),.tup []]) M4:=by
  have e1:ba false (aa (aQ (af 5) (gI 0)) aj) [x0,some (.cell 1),x2,some m.d,some (.lst rs),some (.tup ts),y6,some bad,some (.cell q),x9,x10,x11,x12,x13,x14,x15,x16] M4=.ok (.lst [nD b0]) M4:=jT (aC (aF (by
   simp only [g8,bf,cZ]
   exact ⟨_,rfl,nD b0,by rw [hb0];exact zS,rfl,trivial⟩)) rfl) (tqq rfl)
  have e6:aA false .mul (bh (aa mf aj)) (aQ (af 3) (gI 1)) [x0,some (.cell 1),x2,some m.d,some (.lst rs),some (.tup ts),y6,some bad,some (.cell q),x9,x10,x11,x12,x13,x14,x15,x16] M4=.ok (.tup (List.replicate m.places (.bl true))) M4:=aF (by
   simp only [dv,g7,bc,bB,cZ,g8,bf]
   refine ⟨aJ (n:=1) (by decide),_,rfl,nD m.places,rfl,zF.mpr ⟨⟨aJ (by simp;omega),by omega,by omega⟩,?_,rfl⟩⟩
   simp)
  have e7:aA false .add (af 5) (bh (aa (gI 0) aj)) [x0,some (.cell 1),x2,some m.d,some (.lst rs),some (.tup ts),y6,some bad,some (.cell q),x9,x10,x11,x12,x13,x14,x15,x16] M4=.ok (.tup (ts++[.int 0])) M4:=aF (by
   simp only [dv,g7,bc,bB,cZ,bf]
   exact ⟨_,rfl,aJ (n:=1) (by decide),ll.mpr ⟨aJ (by simp;omega),rfl,rfl⟩⟩)
  exact jT (aC e1 (aC rfl (aC rfl (aC rfl (aC rfl (aC e6 (aC e7 (aC rfl rfl)))))))) (tqq rfl)
 have th8:∀t∈[D.lst [nD b0],.non,.bl true,.int 0,.str "0",.tup (List.replicate m.places (.bl true)),.tup (ts++[.int 0]),.tup []],Th 9 60 t:=fun t ht=>by
  simp only [List.mem_cons,List.not_mem_nil,or_false] at ht
  rcases ht with rfl|rfl|rfl|rfl|rfl|rfl|rfl|rfl
  ·exact .lst_of (show 1<=60 by decide) fun d hd=>by rw [List.mem_singleton.mp hd];trivial
  ·trivial
  ·trivial
  ·trivial
  ·exact (u4 (x:=.str "0") (by simp [eR])).mono (by decide) (by decide)
  ·exact .tup_of (by rw [List.length_replicate];omega) fun d hd=>by rw [List.eq_of_mem_replicate hd];trivial
  ·exact .tup_of (by rw [List.length_append];simp;omega) fun d hd=>by
    rcases List.mem_append.mp hd with z|z
    ·exact hin d z
    ·rw [List.mem_singleton.mp z];trivial
  ·exact .tup_of (by decide) fun d hd=>nomatch hd
 simp only [aN,gJ,Cu]
 rw [el,du]
 refine ⟨rfl,?_⟩
 refine eF (ds:=[D.lst [nD b0],.non,.bl true,.int 0,.str "0",.tup (List.replicate m.places (.bl true)),.tup (ts++[.int 0]),.tup []]) (fun _ Z M'=>aO M' 1 (B+500)/\∃x14,Z=[x0,some (.cell 1),x2,some m.d,some (.lst rs),some (.tup ts),y6,some bad,some (.cell q),x9,x10,x11,x12,x13,x14,x15,x16]) (fun _ _ _ _=>rfl) ⟨q4,_,rfl⟩ ?_ ?_
 ·rintro j t Z M5 hj ⟨q5,x14,rfl⟩
  refine ⟨_,rfl,bb (BQ h (M:=M5) (x0:=x0) (x1:=some (.cell 1)) (x2:=x2) (x5:=some (.tup ts)) (x6:=y6) (x7:=some bad) (x8:=some (.cell q)) (x9:=x9) (x10:=x10) (x11:=x11) (x12:=x12) (x13:=x13) (x15:=x15) (x16:=x16) hm (hr.lst (by decide)) (th8 t (List.mem_of_getElem? hj))) ?_⟩
  rintro fl M6 ⟨rfl,S⟩
  exact ⟨_,rfl,S.pen q5,_,rfl⟩
 ·rintro Z M5 ⟨q5,x14,rfl⟩
  exact ⟨⟨_,_,_,_,_,_,_,_,_,rfl⟩,q5⟩
theorem Jy (ns:List Int)(hn:ns.length<=63):∃M,aw P 40 100 [.frz (ns.map D.int)] []=.ok (.bl true) M:=by
 have goal:aq (aw P 40 100 [.frz (ns.map D.int)] []) fun d _=>d=.bl true:=by
  refine aM h.h100 rfl ?_
  show aq (mn (aw P 39) [some (.frz (ns.map D.int)),none,none,none,none,none,none,none,none,none,none,none,none,none,none,none,none] []) _
  unfold mn
  refine fm (k:=fun d M'=>d=.cell 1/\aO M' 1 0) ?_ ?_
  ·rw [cS (aC (aS rfl) rfl)]
   exact Dr h.p 38 hn
  rintro _ M1 ⟨rfl,q1⟩
  simp only [aN,gJ,iO,cZ]
  refine ⟨5,rfl,by decide,?_⟩
  refine eF (ds:=(List.range 5).map fun (k:Nat)=>D.int (k:Int)) (fun i Z M'=>aO M' 1 (i*2000)/\∃x2 x3 x4 x5 x6 x7 x8 x9 x10 x11 x12 x13 x14 x15 x16,Z=[some (.frz (ns.map D.int)),some (.cell 1),x2,x3,x4,x5,x6,x7,x8,x9,x10,x11,x12,x13,x14,x15,x16]) (fun _ _ _ _=>rfl) ⟨q1,none,none,none,none,none,none,none,none,none,none,none,none,none,none,none,rfl⟩ ?_ ?_
  ·rintro i dd Z M' hd ⟨q2,x2,x3,x4,x5,x6,x7,x8,x9,x10,x11,x12,x13,x14,x15,x16,rfl⟩
   have hi:i<5:=by
    have:=(List.getElem?_eq_some_iff.mp hd).1
    simpa using this
   refine ⟨_,rfl,?_⟩
   refine fm (k:=fun d M''=>∃m:bq,d=m.d/\cB m/\aO M'' 1 (i*2000+300)) ?_ ?_
   ·simp only [ff,bc,bB,cZ]
    show aq (aw P 39 30 [.cell 1] M') _
    refine bb (Dw h.p 38 q2) ?_
    rintro _ M3 ⟨rfl,q3,_⟩
    show aq (aw P 39 34 [.cell 1,nD 4,nD 2,nD 5] M3) _
    exact bb (w6 h.p 34 q3 (by omega) (by decide) (by decide) (by decide) (by decide) (by decide) (by decide)) fun d M4 ⟨m,e,hm,_,_,_,q4,_⟩=>⟨m,e,hm,q4⟩
   rintro dm M3 ⟨m,hdm,hm,q3⟩
   have p1:=hm.p1
   have p2:=hm.p2
   have w2:=hm.w2
   have w4:=hm.w4
   refine fm (k:=fun d M''=>∃r:List Nat,d=.lst (r.map nD)/\Itm 6 (r.map nD)/\aO M'' 1 (i*2000+350)) ?_ ?_
   ·rw [cS (aC (aS rfl) (aC (aS rfl) (aC rfl rfl)))]
    rw [hdm]
    exact bb (Dp h.p h.h35 36 hm q3 (by omega) (mo:=6) (by decide)) fun d M' ⟨r,e,hr,hl,q,_⟩=>⟨r,e,DH hm hr.2 hl,q⟩
   rintro _ M4 ⟨r,rfl,hr,q4⟩
   generalize r.map nD=rs at hr
   have hrl:=hr.len
   show aq (ah _ _ [some (.frz (ns.map D.int)),some (.cell 1),some dd,some dm,some (.lst rs),x5,x6,x7,x8,x9,x10,x11,x12,x13,x14,x15,x16] M4) _
   simp only [aN,fZ,fg,bc,bB,jW,iO,g8,bf,cZ]
   refine ⟨dm,rfl,nD m.places,by rw [hdm];rfl,(m.places:Int),rfl,⟨by omega,by omega⟩,?_⟩
   rw [Int.toNat_natCast]
   refine comp_map (ds:=(List.range m.places).map fun (k:Nat)=>D.int (k:Int)) (fun k acc M'=>∃t:List Nat,acc=t.map nD/\(∀x∈t,x<m.words)/\aO M' 1 (i*2000+350+k)) (aJ (by simp;omega)) (fun _ _ _ _=>rfl) ⟨[],rfl,(fun _ hx=>nomatch hx),q4⟩ ?_ ?_
   ·rintro k d acc M5 hd _ ⟨t,rfl,ht,q5⟩
    have hk:k<m.places:=by
     have:=(List.getElem?_eq_some_iff.mp hd).1
     simpa using this
    refine ⟨_,rfl,bb (je h.p 37 (j:=2) (many:=m.words) rfl (AA (m:=m) (by rw [<- hdm];rfl)) q5 (by omega) (by omega) (by omega)) ?_⟩
    rintro _ M6 ⟨v,rfl,hv,q6,_⟩
    refine ⟨t++[v],by rw [List.map_append];rfl,fun x hx=>?_,q6⟩
    rcases List.mem_append.mp hx with z|z
    ·exact ht x z
    ·rw [List.mem_singleton.mp z];exact hv
   rintro acc M5 hl ⟨t,rfl,ht,q5⟩
   subst hdm
   simp only [List.length_map,List.length_range] at hl q5
   refine bW.mpr ⟨aJ (by rw [List.length_map];omega),yL.mpr ?_⟩
   have htb:Th 2 6 (.tup (t.map nD)):=.tup_of (by rw [List.length_map];omega) fun x hx=>by obtain ⟨j,_,rfl⟩:=List.mem_map.mp hx;trivial
   have htl:(t.map nD).length<=2:=by rw [List.length_map];omega
   have hin:∀x∈t.map nD,Th 8 60 x:=fun x hx=>by obtain ⟨j,_,rfl⟩:=List.mem_map.mp hx;trivial
   have hb0:∃b0 br,t.map nD=nD b0::br:=by
    cases t with
    |nil=>simp at hl;omega
    |cons b0 br=>exact ⟨b0,br.map nD,rfl⟩
   have q5:aO M5 1 (i*2000+352):=q5.mono (by omega)
   generalize t.map nD=ts at htb htl hin hb0
   have t9:Th 9 60 (.tup ts):=htb.mono (by decide) (by decide)
   have t9':Th 9 60 (.tup (ts.take (ts.length-1))):=.tup_of (by rw [List.length_take];omega) fun x hx=>hin x (List.mem_of_mem_take hx)
   have md7:Th 7 7 m.d:=(gn hm).mono (by decide) (by decide)
   have z41:Thing (.lst (zeros 41)):=(Itm.zeros 41).lst (by decide)
   have z49:Thing (.lst (zeros 40++[.int 9])):=((Itm.zeros 40).app (.one (eh (i:=9) (by decide)))).lst (by decide)
   have tn:Thing .non:=.item (bO (by simp))
   have n9:Th 9 60 .non:=trivial
   show aq (ah _ _ [some (.frz (ns.map D.int)),some (.cell 1),some dd,some m.d,some (.lst rs),some (.tup ts),x6,x7,x8,x9,x10,x11,x12,x13,x14,x15,x16] M5) _
   refine fB h.p 37 (many:=rs.length+1) rfl (wx rfl) q5 (by omega) (by omega) (by omega) fun at_ M6 hat q6 _=>?_
   refine fm (k:=fun d M''=>Th 7 7 d/\aO M'' 1 (i*2000+400)) ?_ ?_
   ·rw [cS (aC (aS rfl) (aC (aS rfl) (aC rfl rfl)))]
    exact bb (oq h.p h.t h.w 5 28 (by decide) (gn hm) (by decide) (by decide) (by decide) q6 (by omega)) fun d M' ⟨a,b,_⟩=>⟨a,b.mono (by omega)⟩
   rintro bad M7 ⟨tb,q7⟩
   have lp:=q7.lt
   have c0:∀c∈[D.tup [m.d,.lst rs,.tup ts],.tup [m.d,.lst (zeros 41),.tup (ts.take (ts.length-1))],.tup [m.d,.lst (zeros 40++[.int 9]),.non]],oh c:=fun c hc=>by
    simp only [List.mem_cons,List.not_mem_nil,or_false] at hc
    rcases hc with rfl|rfl|rfl
    ·exact jh md7 (hr.lst (by decide)) t9
    ·exact jh md7 z41 t9'
    ·exact jh md7 z49 n9
   have c1:∀c∈[D.tup [m.d,.tup rs,.tup ts],.tup [m.d,.non,.tup (ts.take (ts.length-1))],.tup [m.d,.str "",.tup ts]],oh c:=fun c hc=>by
    simp only [List.mem_cons,List.not_mem_nil,or_false] at hc
    rcases hc with rfl|rfl|rfl
    ·exact jh md7 (hr.tup (by decide)) t9
    ·exact jh md7 tn t9'
    ·exact jh md7 (.item (bO (by simp))) t9
   have c2:∀c∈[D.tup [m.d,.lst (zeros 41),.tup ts],.tup [bad,.lst rs,.tup ts],.tup [bad,.non,.tup ts],.tup [m.d,.tup [],.non]],oh c:=fun c hc=>by
    simp only [List.mem_cons,List.not_mem_nil,or_false] at hc
    rcases hc with rfl|rfl|rfl|rfl
    ·exact jh md7 z41 t9
    ·exact jh tb (hr.lst (by decide)) t9
    ·exact jh tb tn t9
    ·exact jh md7 (.item (bO (by simp))) n9
   refine mJ (wu (aC (fA (aS rfl) (aS rfl) (aS rfl)) (aC (fA (y:=.lst (zeros 41)) (aS rfl) rfl (vh rfl)) (aC (fA (y:=.lst (zeros 40++[.int 9])) (aS rfl) rfl rfl) rfl))) (tqq rfl)) ?_
   refine mJ (wU rfl mL (jT (aC (fA (y:=.tup rs) (aS rfl) rfl (aS rfl)) (aC (fA (aS rfl) rfl (vh rfl)) (aC (fA (aS rfl) rfl (aS rfl)) rfl))) (tqq rfl)) (tqq rfl)) ?_
   refine mJ (wU rfl mL (jT (aC (fA (y:=.lst (zeros 41)) (aS rfl) rfl (aS rfl)) (aC (fA (aS rfl) (aS rfl) (aS rfl)) (aC (fA (aS rfl) rfl (aS rfl)) (aC (fA (y:=.tup []) (aS rfl) rfl rfl) rfl)))) (tqq rfl)) (tqq rfl)) ?_
   obtain ⟨b0,br,hb0⟩:=hb0
   have cc:c7 (M7++[[D.tup [m.d,.lst rs,.tup ts],.tup [m.d,.lst (zeros 41),.tup (ts.take (ts.length-1))],.tup [m.d,.lst (zeros 40++[.int 9]),.non]]]++[[D.tup [m.d,.lst rs,.tup ts],.tup [m.d,.lst (zeros 41),.tup (ts.take (ts.length-1))],.tup [m.d,.lst (zeros 40++[.int 9]),.non]]++[D.tup [m.d,.tup rs,.tup ts],.tup [m.d,.non,.tup (ts.take (ts.length-1))],.tup [m.d,.str "",.tup ts]]]++[[D.tup [m.d,.lst rs,.tup ts],.tup [m.d,.lst (zeros 41),.tup (ts.take (ts.length-1))],.tup [m.d,.lst (zeros 40++[.int 9]),.non]]++[D.tup [m.d,.tup rs,.tup ts],.tup [m.d,.non,.tup (ts.take (ts.length-1))],.tup [m.d,.str "",.tup ts]]++[D.tup [m.d,.lst (zeros 41),.tup ts],.tup [bad,.lst rs,.tup ts],.tup [bad,.non,.tup ts],.tup [m.d,.tup [],.non]]]) (M7++[[D.tup [m.d,.lst rs,.tup ts],.tup [m.d,.lst (zeros 41),.tup (ts.take (ts.length-1))],.tup [m.d,.lst (zeros 40++[.int 9]),.non]]]++[[D.tup [m.d,.lst rs,.tup ts],.tup [m.d,.lst (zeros 41),.tup (ts.take (ts.length-1))],.tup [m.d,.lst (zeros 40++[.int 9]),.non]]++[D.tup [m.d,.tup rs,.tup ts],.tup [m.d,.non,.tup (ts.take (ts.length-1))],.tup [m.d,.str "",.tup ts]]]).length 10:=⟨_,mL,tqq rfl,fun c hc=>(List.mem_append.mp hc).elim (fun hc=>(List.mem_append.mp hc).elim (c0 c) (c1 c)) (c2 c)⟩
   refine bb (Bc h (B:=i*2000+400) hm hr htb htl hin hb0 tb (by simp only [List.length_append,List.length_cons,List.length_nil];omega) q7.app.app.app (by omega) cc) ?_
   rintro fl M8 ⟨⟨y6,y9,y10,y11,y12,y13,y14,y15,y16,rfl⟩,q8⟩
   exact ⟨_,rfl,q8.mono (by omega),_,_,_,_,_,_,_,_,_,_,_,_,_,_,_,rfl⟩
  ·rintro Z M' ⟨q2,x2,x3,x4,x5,x6,x7,x8,x9,x10,x11,x12,x13,x14,x15,x16,rfl⟩
   exact (rfl:D.bl true=.bl true)
 obtain ⟨d,M,e,rfl⟩:=qA.mp goal
 exact ⟨M,e⟩
end
end LD
namespace K06
open PySem PySem.Spec PyProof.Rows L2 LD
def top (i:Nat):Stmt:=PySem.Challenge.pw_leastdeeds_k06_what_is_refused_of_runs.main.body.getD i (.Pass ⟨0,0,0,0⟩)
abbrev j5:Stmt:=top 17
abbrev mC:Stmt:=top 25
abbrev lP:Stmt:=top 26
abbrev mH:Stmt:=top 27
abbrev jr:Stmt:=top 28
abbrev jF:Stmt:=top 29
abbrev eX:Stmt:=top 30
abbrev mD:Stmt:=top 31
abbrev mF:Stmt:=top 32
abbrev mE:Stmt:=top 33
abbrev nz:Stmt:=top 34
abbrev mG:Stmt:=top 36
abbrev iu:Stmt:=top 37
abbrev iS:Stmt:=top 38
abbrev gy:Stmt:=top 39
abbrev iw:Stmt:=top 40
abbrev ib:Stmt:=top 41
abbrev iR:Stmt:=top 42
abbrev lO:Stmt:=top 43
abbrev nt:Stmt:=top 45
abbrev ny:Stmt:=top 46
abbrev pC:Stmt:=top 47
abbrev nv:Stmt:=top 48
abbrev qY:Stmt:=top 50
abbrev iT:Stmt:=top 51
abbrev uA:Stmt:=top 52
abbrev kc:Stmt:=top 53
abbrev kz:Stmt:=top 54
abbrev js:Stmt:=top 56
abbrev kC:Stmt:=top 57
abbrev kF:Stmt:=top 58
abbrev kB:Stmt:=top 59
abbrev fQ:Stmt:=top 60
abbrev iG:Stmt:=top 61
abbrev jt:Stmt:=top 62
abbrev iF:Stmt:=top 63
abbrev iU:Stmt:=top 64
abbrev gm:Stmt:=top 65
abbrev iY:Stmt:=top 66
abbrev iX:Stmt:=top 67
abbrev jG:Stmt:=top 68
abbrev j6:Stmt:=top 69
abbrev gz:Stmt:=top 70
abbrev gA:Stmt:=top 71
abbrev eY:Stmt:=top 72
abbrev iV:Stmt:=top 73
abbrev kD:Stmt:=top 74
abbrev iW:Stmt:=top 75
abbrev kA:Stmt:=top 76
abbrev lQ:Stmt:=top 77
abbrev qh:Stmt:=top 78
abbrev AR:Stmt:=inC (top 2)
abbrev Hc:List Str:=["thing","low","high"]
theorem Ku:Hc.Nodup:=by decide +kernel
abbrev sP:List Str:=["words","thing"]
theorem Ht:sP.Nodup:=by decide +kernel
abbrev Kq:List Str:=["places","thing"]
theorem nd2:Kq.Nodup:=by decide +kernel
abbrev u7:List Str:=["thing"]
theorem CU:u7.Nodup:=by decide +kernel
abbrev Kp:List Str:=["long","thing"]
theorem nd4:Kp.Nodup:=by decide +kernel
abbrev ns5:List Str:=["word","words","thing"]
theorem nd5:ns5.Nodup:=by decide +kernel
abbrev ns6:List Str:=["table","words","thing"]
theorem nd6:ns6.Nodup:=by decide +kernel
abbrev Ko:List Str:=["words","places","parts","at","table","price"]
theorem Kt:Ko.Nodup:=by decide +kernel
abbrev Kn:List Str:=["words","places","parts","at","other","table","price"]
theorem Ks:Kn.Nodup:=by decide +kernel
abbrev Km:List Str:=["words","places","parts","at","other","price"]
theorem Kr:Km.Nodup:=by decide +kernel
abbrev Hb:List Str:=["words","places","parts","at","word","price"]
theorem Hs:Hb.Nodup:=by decide +kernel
abbrev Ha:List Str:=["words","places","thing","sort","is_sort"]
theorem BH:Ha.Nodup:=by decide +kernel
abbrev xE:List Str:=["thing","words","places","deeds"]
theorem Hr:xE.Nodup:=by decide +kernel
abbrev Lq:List Str:=["deed","thing","words","places","deeds"]
theorem LL:Lq.Nodup:=by decide +kernel
abbrev xD:List Str:=["machine","thing","words","places","deeds"]
theorem Hq:xD.Nodup:=by decide +kernel
abbrev Lp:List Str:=["word","machine","thing","words","places","deeds"]
theorem LK:Lp.Nodup:=by decide +kernel
abbrev xC:List Str:=["machine","words","places","deeds","starts","place"]
theorem ve:xC.Nodup:=by decide +kernel
abbrev Lo:List Str:=["start","word","machine","words","places","deeds","starts","place"]
theorem Ho:Lo.Nodup:=by decide +kernel
abbrev G9:List Str:=["machine","thing"]
theorem LJ:G9.Nodup:=by decide +kernel
abbrev G8:List Str:=["machine","row","place","thing"]
theorem Hn:G8.Nodup:=by decide +kernel
abbrev rG:List Str:=["machine","row"]
theorem BG:rG.Nodup:=by decide +kernel
abbrev G7:List Str:=["deed","standing","sort","at","table","price"]
theorem Hm:G7.Nodup:=by decide +kernel
abbrev G6:List Str:=["deed","standing","sort","at","other","table","price"]
theorem Hl:G6.Nodup:=by decide +kernel
abbrev G5:List Str:=["deed","standing","sort","at","other","price"]
theorem Hk:G5.Nodup:=by decide +kernel
abbrev G4:List Str:=["deed","standing","sort","at","word","price"]
theorem Hj:G4.Nodup:=by decide +kernel
abbrev G3:List Str:=["deed","standing","new_word","at"]
theorem BF:G3.Nodup:=by decide +kernel
abbrev G2:List Str:=["machine","row","beginning","standings","number"]
theorem BE:G2.Nodup:=by decide +kernel
abbrev G1:List Str:=["machine","row","beginning"]
theorem LH:G1.Nodup:=by decide +kernel
abbrev Ln:List Str:=["start","machine","row"]
theorem LG:Ln.Nodup:=by decide +kernel
abbrev G0:List Str:=["cell","at","primes","one","two","three"]
theorem rK:G0.Nodup:=by decide +kernel
abbrev GZ:List Str:=["script","cells","k","cell"]
theorem BD:GZ.Nodup:=by decide +kernel
abbrev Bz:List Str:=["pen"]
theorem Hi:Bz.Nodup:=by decide +kernel
abbrev GY:List Str:=["pen","many","at","cell","found"]
theorem rJ:GY.Nodup:=by decide +kernel
abbrev xB:List Str:=["pen","others","all_signs","some"]
theorem xI:xB.Nodup:=by decide +kernel
abbrev Lm:List Str:=["sign","pen","others","all_signs","some"]
theorem LF:Lm.Nodup:=by decide +kernel
abbrev GX:List Str:=["pen","text","at"]
theorem Hh:GX.Nodup:=by decide +kernel
abbrev xA:List Str:=["found","due"]
theorem LC:xA.Nodup:=by decide +kernel
abbrev Ll:List Str:=["one","other","found","due"]
theorem LA:Ll.Nodup:=by decide +kernel
abbrev nO:List Str:=["pen","words","kind","word","other","found"]
theorem vd:nO.Nodup:=by decide +kernel
abbrev Lk:List Str:=["k","pen","words","kind","word","other","found"]
theorem BC:Lk.Nodup:=by decide +kernel
abbrev xy:List Str:=["pen","words","places","kind","price","at","other"]
theorem vc:xy.Nodup:=by decide +kernel
abbrev Lj:List Str:=["k","pen","words","places","kind","price","at","other"]
theorem Lz:Lj.Nodup:=by decide +kernel
abbrev GV:List Str:=["pen","words","places","most","deeds","k","again","deed"]
theorem nQ:GV.Nodup:=by decide +kernel
abbrev xx:List Str:=["pen","machine","most","kind","many","found"]
theorem vb:xx.Nodup:=by decide +kernel
abbrev Li:List Str:=["k","pen","machine","most","kind","many","found"]
theorem Ly:Li.Nodup:=by decide +kernel
abbrev xv:List Str:=["thing","many","low","high"]
theorem Lx:xv.Nodup:=by decide +kernel
abbrev Lh:List Str:=["one","thing","many","low","high"]
theorem Lw:Lh.Nodup:=by decide +kernel
abbrev xu:List Str:=["thing","words","places"]
theorem Lv:xu.Nodup:=by decide +kernel
abbrev Lg:List Str:=["one","thing","words","places"]
theorem Lu:Lg.Nodup:=by decide +kernel
abbrev Lf:List Str:=["deed","thing"]
theorem Ls:Lf.Nodup:=by decide +kernel
abbrev GU:List Str:=["machine","row","place","number"]
theorem Hg:GU.Nodup:=by decide +kernel
abbrev GR:List Str:=["pen","thing","deep","kind","pick","number","at","odd","some"]
theorem nP:GR.Nodup:=by decide +kernel
abbrev GQ:List Str:=["caught","some","words"]
theorem pQ:GQ.Nodup:=by decide +kernel
abbrev GP:List Str:=["at","machine","row","begin","caught","e"]
theorem xH:GP.Nodup:=by decide +kernel
abbrev GO:List Str:=["at","machine","row","begin","due"]
theorem Hf:GO.Nodup:=by decide +kernel
abbrev By:List Str:=["script","pen","turn","machine","row","begin","at","bad","cases","k","way","one","thing","other","third","before","due"]
theorem fE:By.Nodup:=by decide +kernel
abbrev Le:List Str:=["k","script","pen","turn","machine","row","begin","at","bad","cases","k%","way","one","thing","other","third","before","due"]
theorem Lr:Le.Nodup:=by decide +kernel
def Pg:Nat->Option Df
 |0=>some ⟨3,3,fK⟩
 |1=>some ⟨2,2,jX⟩
 |2=>some ⟨2,2,jj⟩
 |3=>some ⟨1,1,jY⟩
 |4=>some ⟨2,2,gi⟩
 |5=>some ⟨2,2,ji⟩
 |6=>some ⟨2,2,eB⟩
 |7=>some ⟨3,6,gO⟩
 |8=>some ⟨3,7,gQ⟩
 |9=>some ⟨3,6,gP⟩
 |10=>some ⟨3,6,iJ⟩
 |11=>some ⟨3,5,gR⟩
 |12=>some ⟨1,4,fJ⟩
 |13=>some ⟨1,1,dn⟩
 |14=>some ⟨2,5,eG⟩
 |15=>some ⟨1,6,dF⟩
 |16=>some ⟨2,2,eP⟩
 |17=>some ⟨2,4,cJ⟩
 |18=>some ⟨2,2,dP⟩
 |20=>some ⟨2,6,mV⟩
 |21=>some ⟨2,7,mX⟩
 |22=>some ⟨2,6,oP⟩
 |23=>some ⟨2,6,mW⟩
 |24=>some ⟨2,4,qT⟩
 |25=>some ⟨3,5,g9⟩
 |26=>some ⟨3,3,iy⟩
 |27=>some ⟨2,2,dB⟩
 |28=>some ⟨2,6,iz⟩
 |29=>some ⟨1,4,jK⟩
 |30=>some ⟨1,1,jL⟩
 |31=>some ⟨2,5,lU⟩
 |32=>some ⟨2,6,jk⟩
 |33=>some ⟨3,7,ik⟩
 |34=>some ⟨4,8,fL⟩
 |35=>some ⟨3,6,hJ⟩
 |40=>some ⟨2,2,dQ⟩
 |46=>some ⟨2,2,fO⟩
 |64=>some ⟨2,4,fh⟩
 |65=>some ⟨1,1,fi⟩
 |66=>some ⟨2,3,gj⟩
 |67=>some ⟨1,1,jl⟩
 |68=>some ⟨3,3,lh⟩
 |69=>some ⟨4,4,hU⟩
 |70=>some ⟨3,3,bC⟩
 |71=>some ⟨1,1,eC⟩
 |72=>some ⟨3,9,ip⟩
 |75=>some ⟨1,3,dM⟩
 |90=>some ⟨2,4,cU⟩
 |98=>some ⟨4,6,cT⟩
 |99=>some ⟨4,5,de⟩
 |100=>some ⟨1,17,mn⟩
 |_=>none
end K06
set_option maxHeartbeats 4000000
namespace K06
open PySem PySem.Spec PyProof.Rows L2 LD
abbrev Fx (fa:Fa)(mg:Str->Option Value)(i:Nat)(x:Str):Prop:=∀ad,fa i=some ad->mg x=some (.ref ad)
structure Txt (K:PySem.W.Frag) (w:World) (mg:Str->Option Value) (fa:Fa):Prop where
 b0:mg "ValueError"=none
 b1:mg "all"=none
 b2:mg "bool"=none
 b3:mg "enumerate"=none
 b4:mg "int"=none
 b5:mg "isinstance"=none
 b6:mg "len"=none
 b7:mg "list"=none
 b8:mg "range"=none
 b9:mg "repr"=none
 b10:mg "str"=none
 b11:mg "tuple"=none
 b12:mg "zip"=none
 c_LEAST_WORDS:∃t,mg "LEAST_WORDS"=some (.int 2 t)
 c_LONGEST_ROW:∃t,mg "LONGEST_ROW"=some (.int 40 t)
 c_MOST_COST:∃t,mg "MOST_COST"=some (.int 3 t)
 c_MOST_DEEDS:∃t,mg "MOST_DEEDS"=some (.int 6 t)
 c_MOST_PLACES:∃t,mg "MOST_PLACES"=some (.int 2 t)
 c_MOST_WORDS:∃t,mg "MOST_WORDS"=some (.int 4 t)
 d_NEW_WORDS:∃ad kvs,mg "NEW_WORDS"=some (.ref ad)/\jM K w.params ad kvs/\fW fa kvs dX
 d_SORTS:∃ad kvs,mg "SORTS"=some (.ref ad)/\jM K w.params ad kvs/\fW fa kvs dJ
 xc:lK fa K
 k_DeedError:∃D,mg "DeedError"=some (.ref D)/\fa 999=some D
 k_NoRow:∃D,mg "NoRow"=some (.ref D)/\fa (dE 0)=some D
 k_NoRule:∃D,mg "NoRule"=some (.ref D)/\fa (dE 1)=some D
 k_NoStep:∃D,mg "NoStep"=some (.ref D)/\fa (dE 2)=some D
 k_NoMachine:∃D,mg "NoMachine"=some (.ref D)/\fa (dE 3)=some D
 k_TooLong:∃D,mg "TooLong"=some (.ref D)/\fa (dE 4)=some D
 k_NoWord:∃D,mg "NoWord"=some (.ref D)/\fa (dE 5)=some D
 k_NoWork:∃D,mg "NoWork"=some (.ref D)/\fa (dE 6)=some D
 k_NoBound:∃D,mg "NoBound"=some (.ref D)/\fa (dE 7)=some D
 k_TooMany:∃D,mg "TooMany"=some (.ref D)/\fa (dE 8)=some D
 k_NoPlace:∃D,mg "NoPlace"=some (.ref D)/\fa (dE 9)=some D
 k_NoDeed:∃D,mg "NoDeed"=some (.ref D)/\fa (dE 10)=some D
 k_Nothing:∃D,mg "Nothing"=some (.ref D)/\fa (dE 11)=some D
 k_NoText:∃D,mg "NoText"=some (.ref D)/\fa (dE 12)=some D
 k_NoLine:∃D,mg "NoLine"=some (.ref D)/\fa (dE 13)=some D
 kr_NoMachine:∃C,mg "NoMachine"=some (.ref C)/\fa (dE 3)=some C/\PySem.W.excIn K C ml "ValueError.__new__"=true
 kr_TooLong:∃C,mg "TooLong"=some (.ref C)/\fa (dE 4)=some C/\PySem.W.excIn K C ml "ValueError.__new__"=true
 kr_NoWord:∃C,mg "NoWord"=some (.ref C)/\fa (dE 5)=some C/\PySem.W.excIn K C ml "ValueError.__new__"=true
 i_NoRow:∀(P:Program) (base:Heap),mv fa P w K mg base 0 "NoRow"
 xf_number:Ao fa K "number"
 xf_place:Ao fa K "place"
 f0:Fx fa mg 0 "is_between"
 f1:Fx fa mg 1 "is_word"
 f2:Fx fa mg 2 "is_place"
 f3:Fx fa mg 3 "is_cost"
 f4:Fx fa mg 4 "is_tuple_of"
 f5:Fx fa mg 5 "is_table"
 f6:Fx fa mg 6 "is_double_table"
 f11:Fx fa mg 11 "is_deed"
 f12:Fx fa mg 12 "is_machine"
 f13:Fx fa mg 13 "need_machine"
 f14:Fx fa mg 14 "is_beginning"
 f15:Fx fa mg 15 "beginnings"
 f16:Fx fa mg 16 "is_deed_number"
 f17:Fx fa mg 17 "need_numbers"
 f18:Fx fa mg 18 "need_row"
 f24:Fx fa mg 24 "done"
 f25:Fx fa mg 25 "all_standing"
 f26:Fx fa mg 26 "run"
 f27:Fx fa mg 27 "behaviour"
 f28:Fx fa mg 28 "_law_spread"
 f29:Fx fa mg 29 "_law_open"
 f30:Fx fa mg 30 "_law_anew"
 f31:Fx fa mg 31 "_law_take"
 f32:Fx fa mg 32 "_law_tab"
 f33:Fx fa mg 33 "_law_deed"
 f34:Fx fa mg 34 "_law_machine"
 f35:Fx fa mg 35 "_law_row"
 f40:Fx fa mg 40 "_law_same"
 f46:Fx fa mg 46 "ends_of"
 f64:Fx fa mg 64 "_law_sign_but"
 f65:Fx fa mg 65 "_law_any_sign"
 f66:Fx fa mg 66 "_law_signed"
 f67:Fx fa mg 67 "_law_is_whole"
 f68:Fx fa mg 68 "_law_is_in"
 f69:Fx fa mg 69 "_law_numbers"
 f70:Fx fa mg 70 "_law_is_deed"
 f71:Fx fa mg 71 "_law_is_machine"
 f72:Fx fa mg 72 "_law_bent"
 f75:Fx fa mg 75 "_law_refusal"
 f90:Fx fa mg 90 "_law_row_due"
 f98:Fx fa mg 98 "_law_told"
 f99:Fx fa mg 99 "_law_due"
theorem boot_bool:bootBuiltins "bool"=some (.type (tyName .bool)):=by decide +kernel
theorem boot_int:bootBuiltins "int"=some (.type (tyName .int)):=by decide +kernel
theorem boot_list:bootBuiltins "list"=some (.type (tyName .list)):=by decide +kernel
theorem boot_str:bootBuiltins "str"=some (.type (tyName .str)):=by decide +kernel
theorem boot_tuple:bootBuiltins "tuple"=some (.type (tyName .tuple)):=by decide +kernel
section
variable {fa:Fa}{P:Program}{w:World}{K:PySem.W.Frag}{mg:Str->Option Value}{base:Heap}
def cE (fa:Fa)(P:Program)(w:World)(K:PySem.W.Frag)(mg:Str->Option Value)(base:Heap)(ns:List Str)(x:Str)(st:Stmt)(b:Call->GS):Prop:=∀{f:Addr} (c:Call) (n:Nat) (cdv:Value) (A:Around) (outer:List PySem.Env) (s:Shared) (H:Hp) (E:XK),(∀f,ir fa P w K mg base n f (c f))->cC (n+4) (A.deeper (envOfC x (aV st) s.heap.objs.size f cdv))->iq fa (gx (iN P w) P w K mg base ns x (aV st) f cdv A outer s H E) (dH st) (b c)
theorem cQ {A:Around}{n:Nat}(h:cC (n+4) A):A.units+100<cLine:=by have:=h.un;omega
theorem cD {ns ps:List Str}{sc:Scope}(nd:ns.Nodup)(a:sc.kind=.function:=by exact rfl)(b:sc.isCoroutine=false:=by exact rfl)(c:sc.isGenerator=false:=by exact rfl)(d:ns.take ps.length=ps:=by exact rfl)(e:∀x∈ps,sc.names.lookup x=some .local\/sc.names.lookup x=some .cell:=by decide +kernel)(f:∀y∈sc.names,y.2≠.free:=by decide +kernel):hV ns ps sc:=⟨a,b,c,nd,d,e,f⟩
theorem uW (T:Txt K w mg fa):cE fa P w K mg base Hc "is_between" j5 fK:=fun _ _ _ _ _ _ _ _ C hr=>have hu:=cQ hr;unbox (ai (a7 (fk (dY (bA (bP ag T.b5 T.b2 boot_bool)) (dU (bN (bA (bP ag T.b5 T.b4 boot_int)))))) (ai (aH cI) au) au) (ai (aH (yA hu ag ag ag)) au))
theorem zq (T:Txt K w mg fa):cE fa P w K mg base sP "is_word" mC jX:=fun _ _ _ _ _ _ _ _ C hr=>unbox (ai (aH (ay C hr T.f0 (ae ag (ae ak (ae (aE ag ak) ao))))) au)
theorem xl (T:Txt K w mg fa):cE fa P w K mg base Kq "is_place" lP jj:=fun _ _ _ _ _ _ _ _ C hr=>unbox (ai (aH (ay C hr T.f0 (ae ag (ae ak (ae (aE ag ak) ao))))) au)
theorem zw (T:Txt K w mg fa):cE fa P w K mg base u7 "is_cost" mH jY:=fun _ _ _ _ _ _ _ _ C hr=>unbox (ai (aH (ay C hr T.f0 (ae ag (ae ak (ae (iC T.c_MOST_COST) ao))))) au)
theorem tK (T:Txt K w mg fa):cE fa P w K mg base Kp "is_tuple_of" jr gi:=fun _ _ _ _ _ _ _ _ C hr=>have hu:=cQ hr;unbox (ai (aH (dS (bP ag T.b5 T.b11 boot_tuple) (fz (fY hu (cm T.b6 (ae ag ao)) ag)))) au)
theorem xk (T:Txt K w mg fa):cE fa P w K mg base sP "is_table" jF ji:=fun _ _ _ _ _ _ _ _ C hr=>unbox (ai (aH (dS (ay C hr T.f4 (ae ag (ae ag ao))) (fz (qa T.b1 (ae (eI (cA (own:=["word"]) (bn:=sP) (sc:=aV jF) (N:=sP) rfl rfl rfl (by decide +kernel)) (eU ag) (fun cl C0 fp s0 H0=>az nd5) (fun cl C0 fp s0 H0=>ay C hr T.f1 (ae ag (ae ag ao)))) ao))))) au)
theorem oQ (T:Txt K w mg fa):cE fa P w K mg base sP "is_double_table" eX eB:=fun _ _ _ _ _ _ _ _ C hr=>unbox (ai (aH (dS (ay C hr T.f4 (ae ag (ae ag ao))) (fz (qa T.b1 (ae (eI (cA (own:=["table"]) (bn:=sP) (sc:=aV eX) (N:=sP) rfl rfl rfl (by decide +kernel)) (eU ag) (fun cl C0 fp s0 H0=>az nd6) (fun cl C0 fp s0 H0=>ay C hr T.f5 (ae ag (ae ag ao)))) ao))))) au)
theorem zr (T:Txt K w mg fa):cE fa P w K mg base Ko "is_turn" mD gO:=fun _ _ _ _ _ _ _ _ C hr=>have hu:=cQ hr;unbox (ai (a7 (bo hu (cm T.b6 (ae ag ao)) ak) (ai (aH cI) au) au) (ai (aR ag (dG Kt (.cons rfl (.inl rfl) (.inl rfl) (.cons rfl (.inl rfl) (.inl rfl) (.cons rfl (.inl rfl) (.inl rfl) (.nil)))))) (ai (aH (dS (ay C hr T.f2 (ae ag (ae ag ao))) (dS (ay C hr T.f5 (ae ag (ae ag ao))) (fz (ay C hr T.f3 (ae ag ao)))))) au)))
theorem zu (T:Txt K w mg fa):cE fa P w K mg base Kn "is_join" mF gQ:=fun _ _ _ _ _ _ _ _ C hr=>have hu:=cQ hr;unbox (ai (a7 (bo hu (cm T.b6 (ae ag ao)) ak) (ai (aH cI) au) au) (ai (aR ag (dG Ks (.cons rfl (.inl rfl) (.inl rfl) (.cons rfl (.inl rfl) (.inl rfl) (.cons rfl (.inl rfl) (.inl rfl) (.cons rfl (.inl rfl) (.inl rfl) (.nil))))))) (ai (a7 (fk (dY (bN (bA (ay C hr T.f2 (ae ag (ae ag ao))))) (dU (bN (bA (ay C hr T.f2 (ae ag (ae ag ao)))))))) (ai (aH cI) au) au) (ai (aH (dS (ay C hr T.f6 (ae ag (ae ag ao))) (fz (ay C hr T.f3 (ae ag ao))))) au))))
theorem zt (T:Txt K w mg fa):cE fa P w K mg base Km "is_move" mE gP:=fun _ _ _ _ _ _ _ _ C hr=>have hu:=cQ hr;unbox (ai (a7 (bo hu (cm T.b6 (ae ag ao)) ak) (ai (aH cI) au) au) (ai (aR ag (dG Kr (.cons rfl (.inl rfl) (.inl rfl) (.cons rfl (.inl rfl) (.inl rfl) (.cons rfl (.inl rfl) (.inl rfl) (.nil)))))) (ai (aH (dS (ay C hr T.f2 (ae ag (ae ag ao))) (dS (ay C hr T.f2 (ae ag (ae ag ao))) (fz (ay C hr T.f3 (ae ag ao)))))) au)))
theorem Bp (T:Txt K w mg fa):cE fa P w K mg base Hb "is_put" nz iJ:=fun _ _ _ _ _ _ _ _ C hr=>have hu:=cQ hr;unbox (ai (a7 (bo hu (cm T.b6 (ae ag ao)) ak) (ai (aH cI) au) au) (ai (aR ag (dG Hs (.cons rfl (.inl rfl) (.inl rfl) (.cons rfl (.inl rfl) (.inl rfl) (.cons rfl (.inl rfl) (.inl rfl) (.nil)))))) (ai (aH (dS (ay C hr T.f2 (ae ag (ae ag ao))) (dS (ay C hr T.f1 (ae ag (ae ag ao))) (fz (ay C hr T.f3 (ae ag ao)))))) au)))
theorem zv (T:Txt K w mg fa):cE fa P w K mg base Ha "is_deed" mG gR:=fun _ _ _ _ _ _ _ _ C hr=>unbox (ai (a7 (fk (dY (bN (bA (bP ag T.b5 T.b11 boot_tuple))) (dU (bN (bA ag))))) (ai (aH cI) au) au) (ai (aR (aT ag ak) (az BH)) (ai (a7 (fk (dY (bN (bA (bP ag T.b5 T.b10 boot_str))) (dU (Aw T.d_SORTS ag)))) (ai (aH cI) au) au) (ai (aR (uh T.d_SORTS ag) (az BH)) (ai (aH (ui C hr (ae ag (ae ag (ae (dR ag (cM ak) c6) ao))))) au)))))
theorem uV (T:Txt K w mg fa):cE fa P w K mg base xE "is_machine" iu fJ:=fun _ _ _ _ _ _ _ _ C hr=>have hu:=cQ hr;unbox (ai (a7 (bN (bA (ay C hr T.f4 (ae ak (ae ag ao))))) (ai (aH cI) au) au) (ai (aR ag (dG Hr (.cons rfl (.inr rfl) (.inl rfl) (.cons rfl (.inr rfl) (.inl rfl) (.cons rfl (.inl rfl) (.inl rfl) (.nil)))))) (ai (a7 (fk (dY (bN (bA (ay C hr T.f0 (ae ag (ae (iC T.c_LEAST_WORDS) (ae (iC T.c_MOST_WORDS) ao)))))) (dU (bN (bA (ay C hr T.f0 (ae ag (ae ak (ae (iC T.c_MOST_PLACES) ao))))))))) (ai (aH cI) au) au) (ai (a7 (fk (dY (bN (bA (bP ag T.b5 T.b11 boot_tuple))) (dU (bN (yB hu ak (cm T.b6 (ae ag ao)) (iC T.c_MOST_DEEDS)))))) (ai (aH cI) au) au) (ai (aH (qa T.b1 (ae (eI (cA (own:=["deed"]) (bn:=xE) (sc:=aV iu) (N:=xE) rfl rfl rfl (by decide +kernel)) (eU ag) (fun cl C0 fp s0 H0=>az LL) (fun cl C0 fp s0 H0=>ay C hr T.f11 (ae ag (ae ag (ae ag ao))))) ao))) au)))))
theorem rm (T:Txt K w mg fa):cE fa P w K mg base u7 "need_machine" iS dn:=fun _ _ _ _ _ _ _ _ C hr=>unbox (ai (a7 (bN (bA (ay C hr T.f12 (ae ag ao)))) (ai (pj T.kr_NoMachine (ae bu ao)) au) au) au)
theorem rn (T:Txt K w mg fa):cE fa P w K mg base xD "is_beginning" gy eG:=fun _ _ _ _ _ _ _ _ C hr=>unbox (ai (aR ag (dG Hq (.cons rfl (.inr rfl) (.inl rfl) (.cons rfl (.inl rfl) (.inl rfl) (.cons rfl (.inl rfl) (.inl rfl) (.nil)))))) (ai (aH (dS (ay C hr T.f4 (ae ag (ae ag ao))) (fz (qa T.b1 (ae (eI (cA (own:=["word"]) (bn:=xD) (sc:=aV gy) (N:=xD) rfl rfl rfl (by decide +kernel)) (eU ag) (fun cl C0 fp s0 H0=>az LK) (fun cl C0 fp s0 H0=>ay C hr T.f1 (ae ag (ae ag ao)))) ao))))) au))
theorem uX (T:Txt K w mg fa):cE fa P w K mg base xC "beginnings" iw dF:=fun _ _ _ _ _ _ _ _ C hr=>unbox (ai (ku (jn C hr T.f13 (ae ag ao))) (ai (aR ag (dG ve (.cons rfl (.inr rfl) (.inl rfl) (.cons rfl (.inl rfl) (.inl rfl) (.cons rfl (.inl rfl) (.inl rfl) (.nil)))))) (ai (aR (bw (ae (bM ao) ao)) (az ve)) (ai (gF PassesOwn.leaving (d9 ag T.b8) (az ve) (ai (Aq (cA (own:=["start" ,"word"]) (bn:=xC) (sc:=aV iw) (N:=xC) rfl rfl rfl (by decide +kernel)) (eU ag) (fun cl C0 fp s0 H0=>az Ho) (fun cl C0 fp s0 H0=>d9 ag T.b8) (fun cl C0 fp s0 H0=>az Ho) (fun cl C0 fp s0 H0=>aE ag (bM (ae ag ao))) (fun cl C0 fp s0 H0=>(fun _=>rfl)) ve) au)) (ai (aH ag) au)))))
theorem pL (T:Txt K w mg fa):cE fa P w K mg base G9 "is_deed_number" ib eP:=fun _ _ _ _ _ _ _ _ C hr=>unbox (ai (aH (ay C hr T.f0 (ae ag (ae ak (ae (aE (cm T.b6 (ae (aT ag ak) ao)) ak) ao))))) au)
theorem rk (T:Txt K w mg fa):cE fa P w K mg base G8 "need_numbers" iR cJ:=fun _ _ _ _ _ _ _ _ C hr=>unbox (ai (a7 (bN (bA (bP ag T.b5 T.b7 boot_list))) (ai (sq (T.i_NoRow P base) (CG hr) ak) au) au) (ai (gF PassesOwn.leaving (pw ag T.b3) (dG Hn (.cons rfl (.inl rfl) (.inl rfl) (.cons rfl (.inl rfl) (.inl rfl) (.nil)))) (ai (a7 (bN (bA (ay C hr T.f16 (ae ag (ae ag ao))))) (ai (sq (T.i_NoRow P base) (CG hr) ag) au) au) au)) au))
theorem xj (T:Txt K w mg fa):cE fa P w K mg base rG "need_row" lO dP:=fun _ _ _ _ _ _ _ _ C hr=>have hu:=cQ hr;unbox (ai (ku (jn C hr T.f13 (ae ag ao))) (ai (ku (jn C hr T.f17 (ae ag (ae ag ao)))) (ai (a7 (bo hu (cm T.b6 (ae ag ao)) (iC T.c_LONGEST_ROW)) (ai (pj T.kr_TooLong (ae (IQ (iC T.c_LONGEST_ROW)) ao)) au) au) au)))
theorem Bm (T:Txt K w mg fa):cE fa P w K mg base G7 "turned" nt mV:=fun _ _ _ _ _ _ _ _ C hr=>unbox (ai (aR ag (dG Hm (.cons rfl (.inl rfl) (.inl rfl) (.cons rfl (.inl rfl) (.inl rfl) (.cons rfl (.inl rfl) (.inl rfl) (.cons rfl (.inl rfl) (.inl rfl) (.nil))))))) (ai (aH (aT ag (aT ag ag))) au))
theorem Bo (T:Txt K w mg fa):cE fa P w K mg base G6 "joined" ny mX:=fun _ _ _ _ _ _ _ _ C hr=>unbox (ai (aR ag (dG Hl (.cons rfl (.inl rfl) (.inl rfl) (.cons rfl (.inl rfl) (.inl rfl) (.cons rfl (.inl rfl) (.inl rfl) (.cons rfl (.inl rfl) (.inl rfl) (.cons rfl (.inl rfl) (.inl rfl) (.nil)))))))) (ai (aH (aT (aT ag (aT ag ag)) (aT ag ag))) au))
theorem Ea (T:Txt K w mg fa):cE fa P w K mg base G5 "moved" pC oP:=fun _ _ _ _ _ _ _ _ C hr=>unbox (ai (aR ag (dG Hk (.cons rfl (.inl rfl) (.inl rfl) (.cons rfl (.inl rfl) (.inl rfl) (.cons rfl (.inl rfl) (.inl rfl) (.cons rfl (.inl rfl) (.inl rfl) (.nil))))))) (ai (aH (aT ag ag)) au))
theorem Bn (T:Txt K w mg fa):cE fa P w K mg base G4 "put_in" nv mW:=fun _ _ _ _ _ _ _ _ C hr=>unbox (ai (aR ag (dG Hj (.cons rfl (.inl rfl) (.inl rfl) (.cons rfl (.inl rfl) (.inl rfl) (.cons rfl (.inl rfl) (.inl rfl) (.cons rfl (.inl rfl) (.inl rfl) (.nil))))))) (ai (aH ag) au))
theorem Gs (T:Txt K w mg fa):cE fa P w K mg base G3 "done" qY qT:=fun _ _ _ _ _ _ _ _ C hr=>unbox (ai (aR (uh T.d_NEW_WORDS (aT ag ak)) (az BF)) (ai (aR (aT ag ak) (az BF)) (ai (aH (aE (aE (dR ag c6 (cM ag)) (bM (ae (ui C hr (ae ag (ae ag ao))) ao))) (dR ag (cM (aE ag ak)) c6))) au)))
theorem rq (T:Txt K w mg fa):cE fa P w K mg base G2 "all_standing" iT g9:=fun _ _ _ _ _ _ _ _ C hr=>unbox (ai (aR (bw (ae ag ao)) (az BE)) (ai (gF PassesOwn.leaving (eU ag) (az BE) (ai (pZ ag (ay C hr T.f24 (ae (aT (aT ag ak) ag) (ae (aT ag (ij ak)) ao)))) au)) (ai (aH ag) au)))
theorem Jm (T:Txt K w mg fa):cE fa P w K mg base G1 "run" uA iy:=fun _ _ _ _ _ _ _ _ C hr=>unbox (ai (ku (jn C hr T.f18 (ae ag (ae ag ao)))) (ai (a7 (bN (bA (ay C hr T.f14 (ae ag (ae ag ao))))) (ai (pj T.kr_NoWord (ae bu ao)) au) au) (ai (aH (ay C hr T.f25 (ae ag (ae ag (ae ag ao))))) au)))
theorem zx (T:Txt K w mg fa):cE fa P w K mg base rG "ends_of" kc fO:=fun _ _ _ _ _ _ _ _ C hr=>unbox (ai (aH (fP T.b11 (ae (eI (cA (own:=["start"]) (bn:=rG) (sc:=aV kc) (N:=rG) rfl rfl rfl (by decide +kernel)) (eU (ay C hr T.f15 (ae ag ao))) (fun cl C0 fp s0 H0=>az LG) (fun cl C0 fp s0 H0=>aT (ay C hr T.f25 (ae ag (ae ag (ae ag ao)))) (ij ak))) ao))) au)
theorem vI (T:Txt K w mg fa):cE fa P w K mg base rG "behaviour" kz dB:=fun _ _ _ _ _ _ _ _ C hr=>unbox (ai (ku (jn C hr T.f18 (ae ag (ae ag ao)))) (ai (aH (ay C hr T.f46 (ae ag (ae ag ao)))) au))
theorem tL (T:Txt K w mg fa):cE fa P w K mg base G0 "_law_spread" js iz:=fun _ _ _ _ _ _ _ _ C hr=>have hu:=cQ hr;unbox (ai (a7 (bo hu ag (aE ak ak)) (ai (aH ag) au) au) (ai (aR (bw (ae ak (ae ak (ae ak (ae ak (ae ak (ae ak (ae ak (ae ak ao))))))))) (az rK)) (ai (aR (aE ag (bw (ae ak (ae ak (ae ak (ae ak (ae ak ao))))))) (az rK)) (ai (aR (aE (aE (aE (aE (aE (aE ag ak) (aE (aE ak ag) ak)) (aE ag ak)) ak) ak) (aT ag (aE ag ak))) (az rK)) (ai (aR (aE (aE (aE (aE (aE ag (aE ag ak)) (aE ag ak)) ak) ak) (aT ag (aE (aE ag ak) ak))) (az rK)) (ai (aR (aE (aE (aE (aE ag (aE ag ak)) ag) ak) (aT ag (aE (aE ag ak) ak))) (az rK)) (ai (aH (aE (aE (aE (aE ag ak) ag) ak) ag)) au)))))))
theorem vM (T:Txt K w mg fa):cE fa P w K mg base GZ "_law_open" kC jK:=fun _ _ _ _ _ _ _ _ C hr=>unbox (ai (aR (vV T.b7 (ae (dR ag c6 (cM ak)) ao)) (az BD)) (ai (gF PassesOwn.leaving (pw (dR ag (cM ak) (cM ak)) T.b3) (dG BD (.cons rfl (.inl rfl) (.inl rfl) (.cons rfl (.inl rfl) (.inl rfl) (.nil)))) (ai (ig ag (aE ag ak) (aE (aT ag (aE ag ak)) ag)) au)) (ai (aH (bw (ae ag (ae ak (ae ak ao))))) au)))
theorem vP (T:Txt K w mg fa):cE fa P w K mg base Bz "_law_anew" kF jL:=fun _ _ _ _ _ _ _ _ C hr=>unbox (ai (ig ag ak ak) (ai (aH ag) au))
theorem vK (T:Txt K w mg fa):cE fa P w K mg base GY "_law_take" kB lU:=fun _ _ _ _ _ _ _ _ C hr=>have hu:=cQ hr;unbox (ai (a7 (bo hu (aT ag ak) ag) (ai (aR (aT ag ak) (az rJ)) (ai (aR ak (az rJ)) (ai (a7 (bo hu ag (cm T.b6 (ae (aT ag ak) ao))) (ai (aR (aT (aT ag ak) ag) (az rJ)) au) (ai (a7 (bo hu (cm T.b6 (ae (aT ag ak) ao)) ak) (ai (aR (aE (aT (aT ag ak) (aE (aE (aE ag ak) ak) (cm T.b6 (ae (aT ag ak) ao)))) (aE (aE ak ak) ag)) (az rJ)) au) au) au)) (ai (ig ag ak (aE ag ak)) (ai (ig ag ak (ay C hr T.f28 (ae ag (ae ag ao)))) au))))) au) (ai (aR (aE (aT ag ak) ag) (az rJ)) (ai (ig ag ak (aE (aT ag ak) ag)) (ai (aH ag) au))))
theorem qx (T:Txt K w mg fa):cE fa P w K mg base xB "_law_sign_but" fQ fh:=fun _ _ _ _ _ _ _ _ C hr=>have hu:=cQ hr;unbox (ai (aR bu (az xI)) (ai (aR (aE ag bu) (az xI)) (ai (yz (cA (own:=["sign"]) (bn:=xB) (sc:=aV fQ) (N:=xB) rfl rfl rfl (by decide +kernel)) (Ay ag) (fun cl C0 fp s0 H0=>az LF) (fun cl C0 fp s0 H0=>bo hu ag ag) (fun cl C0 fp s0 H0=>ag) xI) (ai (aH (aT ag (ay C hr T.f31 (ae ag (ae (cm T.b6 (ae ag ao)) ao))))) au))))
theorem qz (T:Txt K w mg fa):cE fa P w K mg base Bz "_law_any_sign" iG fi:=fun _ _ _ _ _ _ _ _ C hr=>unbox (ai (aH (ay C hr T.f64 (ae ag (ae bu ao)))) au)
theorem tM (T:Txt K w mg fa):cE fa P w K mg base GX "_law_signed" jt gj:=fun _ _ _ _ _ _ _ _ C hr=>unbox (ai (aR (ay C hr T.f31 (ae ag (ae (aE (cm T.b6 (ae ag ao)) ak) ao))) (az Hh)) (ai (aH (aE (aE (vT ag c6 (cM ag)) (ay C hr T.f65 (ae ag ao))) (vT ag (cM (aE ag (ay C hr T.f31 (ae ag (ae ak ao))))) c6))) au))
theorem qy (T:Txt K w mg fa):cE fa P w K mg base u7 "_law_is_whole" iF jl:=fun _ _ _ _ _ _ _ _ C hr=>unbox (ai (aH (dS (bP ag T.b5 T.b4 boot_int) (fz (Fb (bP ag T.b5 T.b2 boot_bool))))) au)
theorem vL (T:Txt K w mg fa):cE fa P w K mg base xA "_law_same" iU dQ:=fun _ _ _ _ _ _ _ _ C hr=>have hu:=cQ hr;unbox (ai (a7 (bo hu ag fX) (ai (aH (fY hu ag fX)) au) au) (ai (a7 (fk (dY (bA (bP ag T.b5 T.b2 boot_bool)) (dU (bA (bP ag T.b5 T.b2 boot_bool))))) (ai (aH (dS (bP ag T.b5 T.b2 boot_bool) (dS (bP ag T.b5 T.b2 boot_bool) (fz (fY hu ag ag))))) au) au) (ai (a7 (bA (bP ag T.b5 T.b4 boot_int)) (ai (aH (dS (bP ag T.b5 T.b4 boot_int) (fz (fY hu ag ag)))) au) au) (ai (a7 (bA (bP ag T.b5 T.b10 boot_str)) (ai (aH (dS (bP ag T.b5 T.b10 boot_str) (fz (fY hu ag ag)))) au) au) (ai (a7 (fk (dY (bo hu (bP ag T.b5 T.b11 boot_tuple) (bP ag T.b5 T.b11 boot_tuple)) (dU (bo hu (bP ag T.b5 T.b7 boot_list) (bP ag T.b5 T.b7 boot_list))))) (ai (aH cI) au) au) (ai (a7 (bo hu (cm T.b6 (ae ag ao)) (cm T.b6 (ae ag ao))) (ai (aH cI) au) au) (ai (aH (fY hu cI (eI (cA (own:=["one" ,"other"]) (bn:=xA) (sc:=aV iU) (N:=xA) rfl rfl rfl (by decide +kernel)) (Ax ag ag T.b12) (fun cl C0 fp s0 H0=>dG LA (.cons rfl (.inl rfl) (.inr rfl) (.cons rfl (.inl rfl) (.inr rfl) (.nil)))) (fun cl C0 fp s0 H0=>ay C hr T.f40 (ae ag (ae ag ao)))))) au)))))))
theorem xm (T:Txt K w mg fa):cE fa P w K mg base nO "_law_tab" gm jk:=fun _ _ _ _ _ _ _ _ C hr=>have hu:=cQ hr;unbox (ai (aR (ay C hr T.f31 (ae ag (ae ak ao))) (az vd)) (ai (aR (ay C hr T.f31 (ae ag (ae ag ao))) (az vd)) (ai (aR (ay C hr T.f31 (ae ag (ae ag ao))) (az vd)) (ai (a7 (bo hu ag ak) (ai (aH (fP T.b11 (ae (eI (cA (own:=["k"]) (bn:=nO) (sc:=aV gm) (N:=nO) rfl rfl rfl (by decide +kernel)) (d9 ag T.b8) (fun cl C0 fp s0 H0=>az BC) (fun cl C0 fp s0 H0=>ay C hr T.f31 (ae ag (ae ag ao)))) ao))) au) au) (ai (a7 (bo hu ag ak) (ai (aH (fP T.b11 (ae (eI (cA (own:=["k"]) (bn:=nO) (sc:=aV gm) (N:=nO) rfl rfl rfl (by decide +kernel)) (d9 ag T.b8) (fun cl C0 fp s0 H0=>az BC) (fun cl C0 fp s0 H0=>aE (aE (aE ag ak) ag) ag)) ao))) au) au) (ai (a7 (bo hu ag ak) (ai (aH (fP T.b11 (ae (eI (cA (own:=["k"]) (bn:=nO) (sc:=aV gm) (N:=nO) rfl rfl rfl (by decide +kernel)) (d9 ag T.b8) (fun cl C0 fp s0 H0=>az BC) (fun cl C0 fp s0 H0=>ni (bo hu ag ag) ag ag)) ao))) au) au) (ai (a7 (bo hu ag ak) (ai (aH (aE (bM (ae ag ao)) ag)) au) au) (ai (aR (As ag T.b7 T.b8) (az vd)) (ai (ig ag ag ag) (ai (ig ag ag ag) (ai (aH (fP T.b11 (ae ag ao))) au)))))))))))
theorem vN (T:Txt K w mg fa):cE fa P w K mg base xy "_law_deed" iY ik:=fun _ _ _ _ _ _ _ _ C hr=>have hu:=cQ hr;unbox (ai (aR (ay C hr T.f31 (ae ag (ae ak ao))) (az vc)) (ai (aR (aE ak (ay C hr T.f31 (ae ag (ae ak ao)))) (az vc)) (ai (aR (ay C hr T.f31 (ae ag (ae ag ao))) (az vc)) (ai (aR (ay C hr T.f31 (ae ag (ae ag ao))) (az vc)) (ai (a7 (bo hu ag ak) (ai (aH (bM (ae bu (ae ag (ae (ay C hr T.f32 (ae ag (ae ag ao))) (ae ag ao)))))) au) au) (ai (a7 (bo hu ag ak) (ai (aH (bM (ae bu (ae ag (ae (ni (bo hu ag ak) (aE (aE ag ak) ag) ag) (ae ag ao)))))) au) au) (ai (a7 (bo hu ag ak) (ai (aH (bM (ae bu (ae ag (ae (ay C hr T.f31 (ae ag (ae ag ao))) (ae ag ao)))))) au) au) (ai (aH (bM (ae bu (ae ag (ae ag (ae (fP T.b11 (ae (eI (cA (own:=["k"]) (bn:=xy) (sc:=aV iY) (N:=xy) rfl rfl rfl (by decide +kernel)) (d9 ag T.b8) (fun cl C0 fp s0 H0=>az Lz) (fun cl C0 fp s0 H0=>ay C hr T.f32 (ae ag (ae ag ao)))) ao)) (ae ag ao))))))) au))))))))
theorem rD (T:Txt K w mg fa):cE fa P w K mg base GV "_law_machine" iX fL:=fun _ _ _ _ _ _ _ _ C hr=>have hu:=cQ hr;unbox (ai (aR (aE ak (ay C hr T.f31 (ae ag (ae (aE ag ak) ao)))) (az nQ)) (ai (aR (aE ak (ay C hr T.f31 (ae ag (ae ag ao)))) (az nQ)) (ai (aR (bw ao) (az nQ)) (ai (gF PassesOwn.leaving (d9 (aE ak (ay C hr T.f31 (ae ag (ae ag ao)))) T.b8) (az nQ) (ai (aR (ay C hr T.f31 (ae ag (ae ak ao))) (az nQ)) (ai (aR (ay C hr T.f33 (ae ag (ae ag (ae ag ao)))) (az nQ)) (ai (a7 (fk (lW (bo hu ag ak) (oj (bo hu ag (bw ao))))) (ai (aR (aE (dR (aT ag (ay C hr T.f31 (ae ag (ae (cm T.b6 (ae ag ao)) ao)))) c6 (cM (ij ak))) (bM (ae (aT ag (ij ak)) ao))) (az nQ)) au) au) (ai (pZ ag ag) au))))) (ai (aH (bM (ae ag (ae ag (ae (fP T.b11 (ae ag ao)) ao))))) au)))))
theorem xn (T:Txt K w mg fa):cE fa P w K mg base xx "_law_row" jG hJ:=fun _ _ _ _ _ _ _ _ C hr=>have hu:=cQ hr;unbox (ai (aR (ay C hr T.f31 (ae ag (ae ak ao))) (az vb)) (ai (aR (ni (bo hu ag ak) ag (ay C hr T.f31 (ae ag (ae (aE ag ak) ao)))) (az vb)) (ai (Ar (cA (own:=["k"]) (bn:=xx) (sc:=aV jG) (N:=xx) rfl rfl rfl (by decide +kernel)) (d9 ag T.b8) (fun cl C0 fp s0 H0=>az Ly) (fun cl C0 fp s0 H0=>ay C hr T.f31 (ae ag (ae (cm T.b6 (ae (aT ag ak) ao)) ao))) vb) (ai (a7 (bo hu ag ak) (ai (aR (dR (aE (dR ag c6 (cM ak)) ag) c6 (cM ag)) (az vb)) au) au) (ai (aH ag) au)))))
theorem uY (T:Txt K w mg fa):cE fa P w K mg base Hc "_law_is_in" j6 lh:=fun _ _ _ _ _ _ _ _ C hr=>have hu:=cQ hr;unbox (ai (aH (dS (ay C hr T.f67 (ae ag ao)) (fz (yA hu ag ag ag)))) au)
theorem rC (T:Txt K w mg fa):cE fa P w K mg base xv "_law_numbers" gz hU:=fun _ _ _ _ _ _ _ _ C hr=>have hu:=cQ hr;unbox (ai (a7 (fk (dY (bN (bA (bP ag T.b5 T.b11 boot_tuple))) (dU (bo hu (cm T.b6 (ae ag ao)) ag)))) (ai (aH cI) au) au) (ai (aH (fY hu (nj (cA (own:=["one"]) (bn:=xv) (sc:=aV gz) (N:=xv) rfl rfl rfl (by decide +kernel)) (eU ag) (fun cl C0 fp s0 H0=>az Lw) (fun cl C0 fp s0 H0=>bN (bA (ay C hr T.f68 (ae ag (ae ag (ae ag ao)))))) (fun cl C0 fp s0 H0=>ak)) (bw ao))) au))
theorem rE (T:Txt K w mg fa):cE fa P w K mg base xu "_law_is_deed" gA bC:=fun _ _ _ _ _ _ _ _ C hr=>have hu:=cQ hr;unbox (ai (a7 (fk (dY (bN (bA (bP ag T.b5 T.b11 boot_tuple))) (dU (bo hu (cm T.b6 (ae ag ao)) (bM (ae ak (ae ak ao))))))) (ai (aH cI) au) au) (ai (a7 (fk (dY (bo hu (aT ag ak) (bM (ae bu (ae bu (ae bu (ae bu ao)))))) (dU (bo hu (fY hu (cm T.b6 (ae ag ao)) ak) (fY hu (aT ag ak) bu))))) (ai (aH cI) au) au) (ai (a7 (fk (dY (bN (bA (ay C hr T.f69 (ae (bM (ae (aT ag ak) ao)) (ae ak (ae ak (ae (aE ag ak) ao))))))) (dU (bN (bA (ay C hr T.f68 (ae (aT ag (ij ak)) (ae ak (ae ak ao))))))))) (ai (aH cI) au) au) (ai (a7 (bo hu (aT ag ak) bu) (ai (aH (ay C hr T.f69 (ae (aT ag ak) (ae ag (ae ak (ae (aE ag ak) ao)))))) au) au) (ai (a7 (bo hu (aT ag ak) bu) (ai (aH (ay C hr T.f68 (ae (aT ag ak) (ae ak (ae (aE ag ak) ao))))) au) au) (ai (a7 (bN (bA (ay C hr T.f68 (ae (aT ag ak) (ae ak (ae (aE ag ak) ao)))))) (ai (aH cI) au) au) (ai (a7 (bo hu (aT ag ak) bu) (ai (aH cI) au) au) (ai (a7 (fk (dY (bN (bA (bP (aT ag ak) T.b5 T.b11 boot_tuple))) (dU (bo hu (cm T.b6 (ae (aT ag ak) ao)) ag)))) (ai (aH cI) au) au) (ai (aH (fY hu (nj (cA (own:=["one"]) (bn:=xu) (sc:=aV gA) (N:=xu) rfl rfl rfl (by decide +kernel)) (eU (aT ag ak)) (fun cl C0 fp s0 H0=>az Lu) (fun cl C0 fp s0 H0=>bN (bA (ay C hr T.f69 (ae ag (ae ag (ae ak (ae (aE ag ak) ao))))))) (fun cl C0 fp s0 H0=>ak)) (bw ao))) au)))))))))
theorem oR (T:Txt K w mg fa):cE fa P w K mg base u7 "_law_is_machine" eY eC:=fun _ _ _ _ _ _ _ _ C hr=>have hu:=cQ hr;unbox (ai (a7 (fk (dY (bN (bA (bP ag T.b5 T.b11 boot_tuple))) (dY (bo hu (cm T.b6 (ae ag ao)) ak) (dU (bN (bA (ay C hr T.f68 (ae (aT ag ak) (ae ak (ae ak ao)))))))))) (ai (aH cI) au) au) (ai (a7 (fk (dY (bN (bA (ay C hr T.f68 (ae (aT ag ak) (ae ak (ae ak ao)))))) (dY (bN (bA (bP (aT ag ak) T.b5 T.b11 boot_tuple))) (dU (bN (yB hu ak (cm T.b6 (ae (aT ag ak) ao)) ak)))))) (ai (aH cI) au) au) (ai (aH (fY hu (nj (cA (own:=["deed"]) (bn:=u7) (sc:=aV eY) (N:=u7) rfl rfl rfl (by decide +kernel)) (eU (aT ag ak)) (fun cl C0 fp s0 H0=>az Ls) (fun cl C0 fp s0 H0=>bN (bA (ay C hr T.f70 (ae ag (ae (aT ag ak) (ae (aT ag ak) ao)))))) (fun cl C0 fp s0 H0=>ak)) (bw ao))) au)))
theorem rA (T:Txt K w mg fa):cE fa P w K mg base GU "_law_row_due" iV cU:=fun _ _ _ _ _ _ _ _ C hr=>have hu:=cQ hr;unbox (ai (a7 (bN (bA (ay C hr T.f71 (ae ag ao)))) (ai (aH (bw (ae bu ao))) au) au) (ai (a7 (bN (bA (bP ag T.b5 T.b7 boot_list))) (ai (aH (bw (ae bu (ae ak ao)))) au) au) (ai (gF PassesOwn.leaving (pw ag T.b3) (dG Hg (.cons rfl (.inl rfl) (.inl rfl) (.cons rfl (.inl rfl) (.inl rfl) (.nil)))) (ai (a7 (bN (bA (ay C hr T.f68 (ae ag (ae ak (ae (aE (cm T.b6 (ae (aT ag ak) ao)) ak) ao)))))) (ai (aH (bw (ae bu (ae ag ao)))) au) au) au)) (ai (aH (ni (bo hu (cm T.b6 (ae ag ao)) ak) (bw (ae bu ao)) fX)) au))))
theorem vO (T:Txt K w mg fa):cE fa P w K mg base GR "_law_bent" kD ip:=fun _ _ _ _ _ _ _ _ C hr=>have hu:=cQ hr;unbox (ai (aR (ay C hr T.f31 (ae ag (ae ak ao))) (az nP)) (ai (aR (ay C hr T.f31 (ae ag (ae ak ao))) (az nP)) (ai (aR (aE (ay C hr T.f31 (ae ag (ae ak ao))) ak) (az nP)) (ai (a7 (fk (lW (bA (bP ag T.b5 T.b11 boot_tuple)) (lW (bo hu ag (bM ao)) (lW (bo hu ag ak) (oj (bo hu ag ak)))))) (ai (aR (ay C hr T.f31 (ae ag (ae (cm T.b6 (ae ag ao)) ao))) (az nP)) (ai (aH (aE (aE (dR ag c6 (cM ag)) (bM (ae (ay C hr T.f72 (ae ag (ae (aT ag ag) (ae (aE ag ak) ao)))) ao))) (dR ag (cM (aE ag ak)) c6))) au)) au) (ai (aR (bw (ae fX (ae cI (ae cI (ae bu (ae bu (ae bu (ae bu (ae bu (ae bu (ae (bM ao) (ae (bw ao) (ae (aE ak ak) (ae (ij ak) (ae ak ao))))))))))))))) (az nP)) (ai (aR (aE ag (bw (ae ak (ae ak (ae (bM (ae ak ao)) (ae (bw (ae ak ao)) (ae bu (ae ak ao)))))))) (az nP)) (ai (a7 (bA (bP ag T.b5 T.b11 boot_tuple)) (ai (aR (bw (ae (vV T.b7 (ae ag ao)) (ae (aE ag (dR ag c6 (cM ak))) (ae (dR ag c6 (cM (ij ak))) (ae (E9 ag) (ae (aE ag (bM (ae ag ao))) (ae (dR ag (cM ak) c6) (ae (bM (ae ag ao)) ao)))))))) (az nP)) (ai (aH (aT (aE ag (bw (ae (aT ag ag) ao))) ag)) au)) au) (ai (a7 (bA (ay C hr T.f67 (ae ag ao))) (ai (aH (aT (bw (ae (aE ag ak) (ae (aE ag ak) (ae (aE ak ag) (ae ag (ae ag (ae (fY hu ag ak) (ae (aE ak ag) (ae (aT ag ag) ao))))))))) ag)) au) au) (ai (a7 (fk (lW (bA (bP ag T.b5 T.b10 boot_str)) (oj (bo hu ag ak)))) (ai (aH (ay C hr T.f66 (ae ag (ae ag ao)))) au) au) (ai (aH (aT ag ag)) au))))))))))
theorem rB (T:Txt K w mg fa):cE fa P w K mg base GQ "_law_refusal" iW dM:=fun _ _ _ _ _ _ _ _ C hr=>have hu:=cQ hr;unbox (ai (aR (bw (ae (dC T.xc T.k_NoRow ag T.b5) (ae (dC T.xc T.k_NoRule ag T.b5) (ae (dC T.xc T.k_NoStep ag T.b5) ao)))) (az pQ)) (ai (aR (aE ag (bw (ae (dC T.xc T.k_NoMachine ag T.b5) (ae (dC T.xc T.k_TooLong ag T.b5) (ae (dC T.xc T.k_NoWord ag T.b5) ao))))) (az pQ)) (ai (aR (aE ag (bw (ae (dC T.xc T.k_NoWork ag T.b5) (ae (dC T.xc T.k_NoBound ag T.b5) (ae (dC T.xc T.k_TooMany ag T.b5) ao))))) (az pQ)) (ai (aR (aE ag (bw (ae (dC T.xc T.k_NoPlace ag T.b5) (ae (dC T.xc T.k_NoDeed ag T.b5) (ae (dC T.xc T.k_Nothing ag T.b5) ao))))) (az pQ)) (ai (aR (aE ag (bw (ae (dC T.xc T.k_NoText ag T.b5) (ae (dC T.xc T.k_NoLine ag T.b5) ao)))) (az pQ)) (ai (a7 (fk (dY (bo hu (Di ag) ak) (dY (bN (bA (Av T.xc T.k_DeedError ag T.b5))) (dU (bN (bA (Au T.xc ag T.b5 T.b0))))))) (ai (aH (bw (ae bu ao))) au) au) (ai (a7 (bA (aT ag ak)) (ai (aH (bw (ae bu (ae (pq T.xc T.xf_place ag) ao)))) au) au) (ai (a7 (bA (aT ag ak)) (ai (aH (bw (ae bu (ae (pq T.xc T.xf_number ag) ao)))) au) au) (ai (a7 (bA (aT ag ak)) (ai (aH (bw (ae bu (ae (pq T.xc T.xf_place ag) ao)))) au) au) (ai (aR (bw (ae bu (ae bu (ae bu (ae bu (ae bu (ae bu (ae bu (ae bu (ae bu (ae bu (ae bu ao)))))))))))) (az pQ)) (ai (aH (bw (ae (aT ag (aE (Dh ag) ak)) ao))) au)))))))))))
theorem vJ (T:Txt K w mg fa):cE fa P w K mg base GP "_law_told" kA cT:=fun _ _ _ _ _ _ _ _ C hr=>have hu:=cQ hr;unbox (ai (aR fX (az xH)) (ai (E8 T.xc T.k_DeedError xH (fun pn Ex=>ai (a7 (bo hu ag ak) (ai (ku (jn C hr T.f26 (ae ag (ae ag (ae ag ao))))) au) (ai (ku (jn C hr T.f27 (ae ag (ae ag ao)))) au)) au) (fun vx Ex=>ai (aR ag (az xH)) au)) (ai (aH (ni (bo hu ag fX) (bw (ae bu ao)) (ay C hr T.f75 (ae ag ao)))) au)))
theorem xo (T:Txt K w mg fa):cE fa P w K mg base GO "_law_due" lQ de:=fun _ _ _ _ _ _ _ _ C hr=>have hu:=cQ hr;unbox (ai (aR (ay C hr T.f90 (ae ag (ae ag ao))) (az Hf)) (ai (a7 (bo hu ag fX) (ai (aH ag) au) au) (ai (a7 (fk (lW (bo hu ag ak) (oj (bN (bA (ay C hr T.f69 (ae ag (ae (aT ag ak) (ae ak (ae (aE (aT ag ak) ak) ao)))))))))) (ai (aH (bw (ae bu ao))) au) au) (ai (aH (bw (ae bu ao))) au))))
theorem CP (T:Txt K w mg fa):cE fa P w K mg base By "law" qh mn:=fun _ _ _ _ _ _ _ _ C hr=>have hu:=cQ hr;unbox (ai (aR (ay C hr T.f29 (ae ag ao)) (az fE)) (ai (gF PassesOwn.leaving (d9 ak T.b8) (az fE) (ai (aR (ay C hr T.f34 (ae (ay C hr T.f30 (ae ag ao)) (ae ak (ae ak (ae ak ao))))) (az fE)) (ai (aR (ay C hr T.f35 (ae ag (ae ag (ae ak ao)))) (az fE)) (ai (aR (fP T.b11 (ae (eI (cA (own:=["k"]) (bn:=["script" ,"pen" ,"turn" ,"machine" ,"row" ,"begin" ,"at" ,"bad" ,"cases" ,"k%" ,"way" ,"one" ,"thing" ,"other" ,"third" ,"before" ,"due"]) (sc:=aV qh) (N:=By) rfl rfl rfl (by decide +kernel)) (d9 (aT ag ak) T.b8) (fun cl C0 fp s0 H0=>az Lr) (fun cl C0 fp s0 H0=>ay C hr T.f31 (ae ag (ae (aT ag ak) ao)))) ao)) (az fE)) (ai (aR (ay C hr T.f31 (ae ag (ae (aE (cm T.b6 (ae ag ao)) ak) ao))) (az fE)) (ai (aR (ay C hr T.f72 (ae ag (ae ag (ae ak ao)))) (az fE)) (ai (aR (bw (ae (bM (ae ag (ae ag (ae ag ao)))) (ae (bM (ae ag (ae (aE (bw (ae ak ao)) ak) (ae (dR ag c6 (cM (ij ak))) ao)))) (ae (bM (ae ag (ae (aE (aE (bw (ae ak ao)) ak) (bw (ae ak ao))) (ae fX ao)))) ao)))) (az fE)) (ai (aR (aE ag (bw (ae (bM (ae ag (ae (fP T.b11 (ae ag ao)) (ae ag ao)))) (ae (bM (ae ag (ae fX (ae (dR ag c6 (cM (ij ak))) ao)))) (ae (bM (ae ag (ae bu (ae ag ao)))) ao))))) (az fE)) (ai (aR (aE ag (bw (ae (bM (ae ag (ae (aE (bw (ae ak ao)) ak) (ae ag ao)))) (ae (bM (ae ag (ae ag (ae ag ao)))) (ae (bM (ae ag (ae fX (ae ag ao)))) (ae (bM (ae ag (ae (bM ao) (ae fX ao)))) ao)))))) (az fE)) (ai (pZ ag (bM (ae ag (ae (aE (aE (aE (dR ag c6 (cM ag)) (bw (ae (ay C hr T.f72 (ae ag (ae ak (ae ak ao)))) ao))) (dR ag (cM ag) c6)) (bw (ae (ij ak) ao))) (ae ag ao))))) (ai (gF PassesOwn.leaving (d9 ak T.b8) (az fE) (ai (aR (ay C hr T.f31 (ae ag (ae ak ao))) (az fE)) (ai (aR (bw (ae ag (ae ag (ae ag ao)))) (az fE)) (ai (a7 (bo hu ag (bM (ae ak (ae ak (ae ak ao))))) (ai (ig ag ak (ay C hr T.f72 (ae ag (ae ag (ae ak ao))))) au) au) (ai (a7 (bo hu ag (bM (ae ak (ae ak (ae ak (ae ak ao)))))) (ai (ig ag ak (aE ag (bw (ae (ay C hr T.f72 (ae ag (ae ak (ae ak ao)))) ao)))) au) au) (ai (a7 (bo hu ag (bM (ae ak (ae ak (ae ak ao))))) (ai (ig ag ak (ay C hr T.f72 (ae ag (ae ag (ae ak ao))))) au) au) (ai (pZ ag (bM (ae (aT ag ak) (ae (aT ag ak) (ae (aT ag ak) ao))))) au))))))) (ai (gF PassesOwn.leaving (eU ag) (dG fE (.cons rfl (.inl rfl) (.inl rfl) (.cons rfl (.inl rfl) (.inl rfl) (.cons rfl (.inl rfl) (.inl rfl) (.nil))))) (ai (gF PassesOwn.leaving (d9 ak T.b8) (az fE) (ai (aR (vU hr T.b9 (ae ag ao)) (az fE)) (ai (aR (ay C hr T.f99 (ae ag (ae ag (ae ag (ae ag ao))))) (az fE)) (ai (a7 (fk (dY (bN (bA (ay C hr T.f40 (ae (ay C hr T.f98 (ae ag (ae ag (ae ag (ae ag ao))))) (ae ag ao))))) (dU (bo hu (vU hr T.b9 (ae ag ao)) ag)))) (ai (aH cI) au) au) au)))) au)) (ai (gF PassesOwn.leaving (eU (bw (ae (bw (ae (aT ag ak) ao)) (ae fX (ae cI (ae ak (ae bu (ae (aE (bM (ae cI ao)) (aT ag ak)) (ae (aE ag (bM (ae ak ao))) (ae (bM ao) ao)))))))))) (az fE) (ai (a7 (bN (bA (ay C hr T.f40 (ae (ay C hr T.f98 (ae ak (ae ag (ae ag (ae ag ao))))) (ae (ay C hr T.f99 (ae ak (ae ag (ae ag (ae ag ao))))) ao))))) (ai (aH cI) au) au) au)) au))))))))))))) (ai (aH cI) au)))
end
end K06
namespace K06
open PySem PySem.Spec PyProof.Rows L2 LD
theorem BO:∀ns:List Int,ns.length<=63->∃M,aw Pg 40 100 [.frz (ns.map D.int)] []=.ok (.bl true) M:=Jy (by repeat' (first|rfl|constructor))
abbrev qB:Str:="leastdeeds.machines"
abbrev qC:Str:="leastdeeds.runs"
abbrev rX (l:List (Nat×Addr)):Fa:=LD.zX l [(0,44),(1,63),(2,82),(3,94),(4,106),(5,118),(6,130),(7,142),(8,154),(9,166),(10,178),(11,190),(12,202),(13,214)] 24
abbrev Fu (K:PySem.W.Frag)(x:Str)(st:Stmt)(f:Addr)(fd:FuncData):Prop:=pd K x x st f fd
section
variable {P:Program}{w:World}{K:PySem.W.Frag}{mg:Str->Option Value}{base:Heap}{f0 f1 f2 f3 f4 f5 f6 f7 f8 f9 f10 f11 f12 f13 f14 f15 f16 f17 f18 f20 f21 f22 f23 f24 f25 f26 f46 f27 f28 f29 f30 f31 f64 f65 f66 f67 f40 f32 f33 f34 f35 f68 f69 f70 f71 f90 f72 f75 f98 f99 f100:Addr}{fd0 fd1 fd2 fd3 fd4 fd5 fd6 fd7 fd8 fd9 fd10 fd11 fd12 fd13 fd14 fd15 fd16 fd17 fd18 fd20 fd21 fd22 fd23 fd24 fd25 fd26 fd46 fd27 fd28 fd29 fd30 fd31 fd64 fd65 fd66 fd67 fd40 fd32 fd33 fd34 fd35 fd68 fd69 fd70 fd71 fd90 fd72 fd75 fd98 fd99 fd100:FuncData}
theorem KH {F:FuncData}{z:List Str}(h:∀a:Value,bindArgs F ⟨[a],[]⟩=pure (z.zip [a])):∀us:List Value,us.length=1->bindArgs F ⟨us,[]⟩=pure (z.zip us):=LD.us1 h
theorem KG {F:FuncData}{z:List Str}(h:∀a b:Value,bindArgs F ⟨[a,b],[]⟩=pure (z.zip [a,b])):∀us:List Value,us.length=2->bindArgs F ⟨us,[]⟩=pure (z.zip us):=LD.Kb h
theorem KD {F:FuncData}{z:List Str}(h:∀a b c:Value,bindArgs F ⟨[a,b,c],[]⟩=pure (z.zip [a,b,c])):∀us:List Value,us.length=3->bindArgs F ⟨us,[]⟩=pure (z.zip us):=LD.us3 h
theorem KC {F:FuncData}{z:List Str}(h:∀a b c d:Value,bindArgs F ⟨[a,b,c,d],[]⟩=pure (z.zip [a,b,c,d])):∀us:List Value,us.length=4->bindArgs F ⟨us,[]⟩=pure (z.zip us):=LD.us4 h
theorem cG {h:Heap}(x:Str)(st:Stmt)(f c:Addr)(pm:Str)(t:Tok)(X:K.In h)(G:h.Ns mainGlobals mg)(a:PySem.W.nsIn K mainGlobals x=some (some (.ref f)):=by kernel_rfl)(l:K.lookup f=some ⟨.type "function",none,.func (PySem.W.fnOf x x (gp st) (dH st) (aV st) .none .none .none (.str pm t) none (.ref c) .none),#[]⟩:=by kernel_rfl)(e:PySem.W.codeIn K (.ref c) x=true:=by kernel_rfl)(k:PySem.W.keepIn K (.ref f)=true:=by kernel_rfl):∃f fd,mg x=some (.ref f)/\Fu K x st f fd:=LD.Jw X G a l e k
theorem cH {k i j:Nat}{b:Call->GS}{ns:List Str}{st:Stmt}{x:Str}{fa:Fa}{f:Addr}{fd:FuncData}(F:pd K x x st f fd)(p:cE fa P w K mg base ns x st b)(sc:hV ns (ns.take i) (aV st))(hb:∀(kV doc pm:Value) (an:Option Addr) (cdv ct:Value) (us:List Value),us.length=(ns.take i).length->bindArgs (PySem.W.fnOf x x (gp st) (dH st) (aV st) .none kV doc pm an cdv ct) ⟨us,[]⟩=pure ((ns.take i).zip us):=by intro _ _ _ _ _ _;first|exact KH fun _=>rfl|exact KG fun _ _=>rfl|exact KD fun _ _ _=>rfl|exact KC fun _ _ _ _=>rfl)(hf:fa k=some f:=by exact rfl)(h1:i=(ns.take i).length:=by exact rfl)(h2:j=ns.length:=by exact rfl):ue fa P w K mg base k ⟨i,j,b⟩:=⟨f,fd,ns.take i,ns,st,x,x,hf,F,F.binds hb,sc,h1,h2,@p _⟩
set_option maxHeartbeats 0 in
theorem ER (F0:Fu K "is_between" j5 f0 fd0)(F1:Fu K "is_word" mC f1 fd1)(F2:Fu K "is_place" lP f2 fd2)(F3:Fu K "is_cost" mH f3 fd3)(F4:Fu K "is_tuple_of" jr f4 fd4)(F5:Fu K "is_table" jF f5 fd5)(F6:Fu K "is_double_table" eX f6 fd6)(F7:Fu K "is_turn" mD f7 fd7)(F8:Fu K "is_join" mF f8 fd8)(F9:Fu K "is_move" mE f9 fd9)(F10:Fu K "is_put" nz f10 fd10)(F11:Fu K "is_deed" mG f11 fd11)(F12:Fu K "is_machine" iu f12 fd12)(F13:Fu K "need_machine" iS f13 fd13)(F14:Fu K "is_beginning" gy f14 fd14)(F15:Fu K "beginnings" iw f15 fd15)(F16:Fu K "is_deed_number" ib f16 fd16)(F17:Fu K "need_numbers" iR f17 fd17)(F18:Fu K "need_row" lO f18 fd18)(F20:Fu K "turned" nt f20 fd20)(F21:Fu K "joined" ny f21 fd21)(F22:Fu K "moved" pC f22 fd22)(F23:Fu K "put_in" nv f23 fd23)(F24:Fu K "done" qY f24 fd24)(F25:Fu K "all_standing" iT f25 fd25)(F26:Fu K "run" uA f26 fd26)(F46:Fu K "ends_of" kc f46 fd46)(F27:Fu K "behaviour" kz f27 fd27)(F28:Fu K "_law_spread" js f28 fd28)(F29:Fu K "_law_open" kC f29 fd29)(F30:Fu K "_law_anew" kF f30 fd30)(F31:Fu K "_law_take" kB f31 fd31)(F64:Fu K "_law_sign_but" fQ f64 fd64)(F65:Fu K "_law_any_sign" iG f65 fd65)(F66:Fu K "_law_signed" jt f66 fd66)(F67:Fu K "_law_is_whole" iF f67 fd67)(F40:Fu K "_law_same" iU f40 fd40)(F32:Fu K "_law_tab" gm f32 fd32)(F33:Fu K "_law_deed" iY f33 fd33)(F34:Fu K "_law_machine" iX f34 fd34)(F35:Fu K "_law_row" jG f35 fd35)(F68:Fu K "_law_is_in" j6 f68 fd68)(F69:Fu K "_law_numbers" gz f69 fd69)(F70:Fu K "_law_is_deed" gA f70 fd70)(F71:Fu K "_law_is_machine" eY f71 fd71)(F90:Fu K "_law_row_due" iV f90 fd90)(F72:Fu K "_law_bent" kD f72 fd72)(F75:Fu K "_law_refusal" iW f75 fd75)(F98:Fu K "_law_told" kA f98 fd98)(F99:Fu K "_law_due" lQ f99 fd99)(F100:Fu K "law" qh f100 fd100)(T:Txt K w mg (rX [(0,f0),(1,f1),(2,f2),(3,f3),(4,f4),(5,f5),(6,f6),(7,f7),(8,f8),(9,f9),(10,f10),(11,f11),(12,f12),(13,f13),(14,f14),(15,f15),(16,f16),(17,f17),(18,f18),(20,f20),(21,f21),(22,f22),(23,f23),(24,f24),(25,f25),(26,f26),(46,f46),(27,f27),(28,f28),(29,f29),(30,f30),(31,f31),(64,f64),(65,f65),(66,f66),(67,f67),(40,f40),(32,f32),(33,f33),(34,f34),(35,f35),(68,f68),(69,f69),(70,f70),(71,f71),(90,f90),(72,f72),(75,f75),(98,f98),(99,f99),(100,f100)])):∀f d,Pg f=some d->ue (rX [(0,f0),(1,f1),(2,f2),(3,f3),(4,f4),(5,f5),(6,f6),(7,f7),(8,f8),(9,f9),(10,f10),(11,f11),(12,f12),(13,f13),(14,f14),(15,f15),(16,f16),(17,f17),(18,f18),(20,f20),(21,f21),(22,f22),(23,f23),(24,f24),(25,f25),(26,f26),(46,f46),(27,f27),(28,f28),(29,f29),(30,f30),(31,f31),(64,f64),(65,f65),(66,f66),(67,f67),(40,f40),(32,f32),(33,f33),(34,f34),(35,f35),(68,f68),(69,f69),(70,f70),(71,f71),(90,f90),(72,f72),(75,f75),(98,f98),(99,f99),(100,f100)]) P w K mg base f d:=fun f d e=>by
 match f,e with
 |0,e=>cases e;exact cH F0 (uW T) (cD Ku)
 |1,e=>cases e;exact cH F1 (zq T) (cD Ht)
 |2,e=>cases e;exact cH F2 (xl T) (cD nd2)
 |3,e=>cases e;exact cH F3 (zw T) (cD CU)
 |4,e=>cases e;exact cH F4 (tK T) (cD nd4)
 |5,e=>cases e;exact cH F5 (xk T) (cD Ht)
 |6,e=>cases e;exact cH F6 (oQ T) (cD Ht)
 |7,e=>cases e;exact cH F7 (zr T) (cD Kt)
 |8,e=>cases e;exact cH F8 (zu T) (cD Ks)
 |9,e=>cases e;exact cH F9 (zt T) (cD Kr)
 |10,e=>cases e;exact cH F10 (Bp T) (cD Hs)
 |11,e=>cases e;exact cH F11 (zv T) (cD BH)
 |12,e=>cases e;exact cH F12 (uV T) (cD Hr)
 |13,e=>cases e;exact cH F13 (rm T) (cD CU)
 |14,e=>cases e;exact cH F14 (rn T) (cD Hq)
 |15,e=>cases e;exact cH F15 (uX T) (cD ve)
 |16,e=>cases e;exact cH F16 (pL T) (cD LJ)
 |17,e=>cases e;exact cH F17 (rk T) (cD Hn)
 |18,e=>cases e;exact cH F18 (xj T) (cD BG)
 |19,e=>cases e
 |20,e=>cases e;exact cH F20 (Bm T) (cD Hm)
 |21,e=>cases e;exact cH F21 (Bo T) (cD Hl)
 |22,e=>cases e;exact cH F22 (Ea T) (cD Hk)
 |23,e=>cases e;exact cH F23 (Bn T) (cD Hj)
 |24,e=>cases e;exact cH F24 (Gs T) (cD BF)
 |25,e=>cases e;exact cH F25 (rq T) (cD BE)
 |26,e=>cases e;exact cH F26 (Jm T) (cD LH)
 |27,e=>cases e;exact cH F27 (vI T) (cD BG)
 |28,e=>cases e;exact cH F28 (tL T) (cD rK)
 |29,e=>cases e;exact cH F29 (vM T) (cD BD)
 |30,e=>cases e;exact cH F30 (vP T) (cD Hi)
 |31,e=>cases e;exact cH F31 (vK T) (cD rJ)
 |32,e=>cases e;exact cH F32 (xm T) (cD vd)
 |33,e=>cases e;exact cH F33 (vN T) (cD vc)
 |34,e=>cases e;exact cH F34 (rD T) (cD nQ)
 |35,e=>cases e;exact cH F35 (xn T) (cD vb)
 |36,e=>cases e
 |37,e=>cases e
 |38,e=>cases e
 |39,e=>cases e
 |40,e=>cases e;exact cH F40 (vL T) (cD LC)
 |41,e=>cases e
 |42,e=>cases e
 |43,e=>cases e
 |44,e=>cases e
 |45,e=>cases e
 |46,e=>cases e;exact cH F46 (zx T) (cD BG)
 |47,e=>cases e
 |48,e=>cases e
 |49,e=>cases e
 |50,e=>cases e
 |51,e=>cases e
 |52,e=>cases e
 |53,e=>cases e
 |54,e=>cases e
 |55,e=>cases e
 |56,e=>cases e
 |57,e=>cases e
 |58,e=>cases e
 |59,e=>cases e
 |60,e=>cases e
 |61,e=>cases e
 |62,e=>cases e
 |63,e=>cases e
 |64,e=>cases e;exact cH F64 (qx T) (cD xI)
 |65,e=>cases e;exact cH F65 (qz T) (cD Hi)
 |66,e=>cases e;exact cH F66 (tM T) (cD Hh)
 |67,e=>cases e;exact cH F67 (qy T) (cD CU)
 |68,e=>cases e;exact cH F68 (uY T) (cD Ku)
 |69,e=>cases e;exact cH F69 (rC T) (cD Lx)
 |70,e=>cases e;exact cH F70 (rE T) (cD Lv)
 |71,e=>cases e;exact cH F71 (oR T) (cD CU)
 |72,e=>cases e;exact cH F72 (vO T) (cD nP)
 |73,e=>cases e
 |74,e=>cases e
 |75,e=>cases e;exact cH F75 (rB T) (cD pQ)
 |76,e=>cases e
 |77,e=>cases e
 |78,e=>cases e
 |79,e=>cases e
 |80,e=>cases e
 |81,e=>cases e
 |82,e=>cases e
 |83,e=>cases e
 |84,e=>cases e
 |85,e=>cases e
 |86,e=>cases e
 |87,e=>cases e
 |88,e=>cases e
 |89,e=>cases e
 |90,e=>cases e;exact cH F90 (rA T) (cD Hg)
 |91,e=>cases e
 |92,e=>cases e
 |93,e=>cases e
 |94,e=>cases e
 |95,e=>cases e
 |96,e=>cases e
 |97,e=>cases e
 |98,e=>cases e;exact cH F98 (vJ T) (cD xH)
 |99,e=>cases e;exact cH F99 (xo T) (cD Hf)
 |100,e=>cases e;exact cH F100 (CP T) (cD fE)
 |k+101,e=>cases e
end
end K06
open PySem PySem.W PyProof.Rows K06
set_option maxRecDepth 100000 in
set_option maxHeartbeats 0 in
theorem PySem.Challenge.cw_leastdeeds_k06_what_is_refused_of_runs_holds : PySem.Challenge.rw_leastdeeds_k06_what_is_refused_of_runs.Holds := by
 w_on;o_law
 refine PySem.W.holds_open (r:=K06.xY) (q:=K06.kq) (loose:=K06.qG) (Xt:=fun s=>PySem.W.xlAt K06.kq [] s&&PySem.W.recOk (PySem.W.RowW.records K06.xY.toRowW) s) (XP:=PySem.W.XL K06.kq []) (Yf:=K06.kH.obs) (Ya:=K06.kH.val) (YP:=K06.kH.says) (N:=10238) K06.Jz K06.kH.of K06.kH.keeps (fun s e=>PySem.W.xl_of s (Bool.and_eq_true_iff.mp e).1) PySem.W.XL.keeps (by rfl) (by rfl) (by rfl) (fun s e=>PySem.W.recFacts_of (Bool.and_eq_true_iff.mp e).2) (by rfl) (by first|assumption|decide +kernel) (by decide +kernel) ⟨rfl,rfl,rfl,rfl,rfl,by decide +kernel⟩ ?hw ?hc
 case hw=>w_witness2
 refine L2.Dk (l:=PySem.Challenge.rw_leastdeeds_k06_what_is_refused_of_runs) (n:=63) (k:=44) (x:="script") (CX:=fun w=>LD.iN PySem.Challenge.rw_leastdeeds_k06_what_is_refused_of_runs.prog w) (K:=K06.kh) (sp:=fun w=>LD.CD (K06.kh w.params)) rfl (by decide) rfl ⟨rfl,by decide,by decide,rfl⟩ (fun w h Y=>PySem.W.kIn_of Y) ?F (fun w H a ns hl hO hS=>⟨a,ns,rfl,hS,hO,hl,fun _=>rfl⟩) (fun _ _ _ _ _ z=>let ⟨_,_,_,_,_,_,_,_,_,_,q⟩:=z;q)
 case F=>
  intro w mg fa h KX G hmg
  obtain ⟨f0,fd0,m0,F0⟩:=cG "is_between" j5 223 222 "leastdeeds.wholes" 458 KX G
  obtain ⟨f1,fd1,m1,F1⟩:=cG "is_word" mC 230 229 qB 469 KX G
  obtain ⟨f2,fd2,m2,F2⟩:=cG "is_place" lP 237 236 qB 469 KX G
  obtain ⟨f3,fd3,m3,F3⟩:=cG "is_cost" mH 244 243 qB 469 KX G
  obtain ⟨f4,fd4,m4,F4⟩:=cG "is_tuple_of" jr 251 250 qB 469 KX G
  obtain ⟨f5,fd5,m5,F5⟩:=cG "is_table" jF 256 255 qB 469 KX G
  obtain ⟨f6,fd6,m6,F6⟩:=cG "is_double_table" eX 261 260 qB 469 KX G
  obtain ⟨f7,fd7,m7,F7⟩:=cG "is_turn" mD 268 267 qB 469 KX G
  obtain ⟨f8,fd8,m8,F8⟩:=cG "is_join" mF 275 274 qB 469 KX G
  obtain ⟨f9,fd9,m9,F9⟩:=cG "is_move" mE 282 281 qB 469 KX G
  obtain ⟨f10,fd10,m10,F10⟩:=cG "is_put" nz 289 288 qB 469 KX G
  obtain ⟨f11,fd11,m11,F11⟩:=cG "is_deed" mG 297 296 qB 469 KX G
  obtain ⟨f12,fd12,m12,F12⟩:=cG "is_machine" iu 302 301 qB 469 KX G
  obtain ⟨f13,fd13,m13,F13⟩:=cG "need_machine" iS 309 308 qB 469 KX G
  obtain ⟨f14,fd14,m14,F14⟩:=cG "is_beginning" gy 314 313 qB 469 KX G
  obtain ⟨f15,fd15,m15,F15⟩:=cG "beginnings" iw 319 318 qB 469 KX G
  obtain ⟨f16,fd16,m16,F16⟩:=cG "is_deed_number" ib 326 325 qB 469 KX G
  obtain ⟨f17,fd17,m17,F17⟩:=cG "need_numbers" iR 333 332 qB 469 KX G
  obtain ⟨f18,fd18,m18,F18⟩:=cG "need_row" lO 340 339 qB 469 KX G
  obtain ⟨f20,fd20,m20,F20⟩:=cG "turned" nt 347 346 qC 646 KX G
  obtain ⟨f21,fd21,m21,F21⟩:=cG "joined" ny 354 353 qC 646 KX G
  obtain ⟨f22,fd22,m22,F22⟩:=cG "moved" pC 361 360 qC 646 KX G
  obtain ⟨f23,fd23,m23,F23⟩:=cG "put_in" nv 368 367 qC 646 KX G
  obtain ⟨f24,fd24,m24,F24⟩:=cG "done" qY 376 375 qC 646 KX G
  obtain ⟨f25,fd25,m25,F25⟩:=cG "all_standing" iT 383 382 qC 646 KX G
  obtain ⟨f26,fd26,m26,F26⟩:=cG "run" uA 390 389 qC 646 KX G
  obtain ⟨f46,fd46,m46,F46⟩:=cG "ends_of" kc 395 394 qC 646 KX G
  obtain ⟨f27,fd27,m27,F27⟩:=cG "behaviour" kz 402 401 qC 646 KX G
  obtain ⟨f28,fd28,m28,F28⟩:=cG "_law_spread" js 409 408 "law_leastdeeds_k06_what_is_refused_of_runs" 750 KX G
  obtain ⟨f29,fd29,m29,F29⟩:=cG "_law_open" kC 416 415 "law_leastdeeds_k06_what_is_refused_of_runs" 750 KX G
  obtain ⟨f30,fd30,m30,F30⟩:=cG "_law_anew" kF 423 422 "law_leastdeeds_k06_what_is_refused_of_runs" 750 KX G
  obtain ⟨f31,fd31,m31,F31⟩:=cG "_law_take" kB 430 429 "law_leastdeeds_k06_what_is_refused_of_runs" 750 KX G
  obtain ⟨f64,fd64,m64,F64⟩:=cG "_law_sign_but" fQ 435 434 "law_leastdeeds_k06_what_is_refused_of_runs" 750 KX G
  obtain ⟨f65,fd65,m65,F65⟩:=cG "_law_any_sign" iG 442 441 "law_leastdeeds_k06_what_is_refused_of_runs" 750 KX G
  obtain ⟨f66,fd66,m66,F66⟩:=cG "_law_signed" jt 449 448 "law_leastdeeds_k06_what_is_refused_of_runs" 750 KX G
  obtain ⟨f67,fd67,m67,F67⟩:=cG "_law_is_whole" iF 456 455 "law_leastdeeds_k06_what_is_refused_of_runs" 750 KX G
  obtain ⟨f40,fd40,m40,F40⟩:=cG "_law_same" iU 461 460 "law_leastdeeds_k06_what_is_refused_of_runs" 750 KX G
  obtain ⟨f32,fd32,m32,F32⟩:=cG "_law_tab" gm 466 465 "law_leastdeeds_k06_what_is_refused_of_runs" 750 KX G
  obtain ⟨f33,fd33,m33,F33⟩:=cG "_law_deed" iY 471 470 "law_leastdeeds_k06_what_is_refused_of_runs" 750 KX G
  obtain ⟨f34,fd34,m34,F34⟩:=cG "_law_machine" iX 478 477 "law_leastdeeds_k06_what_is_refused_of_runs" 750 KX G
  obtain ⟨f35,fd35,m35,F35⟩:=cG "_law_row" jG 483 482 "law_leastdeeds_k06_what_is_refused_of_runs" 750 KX G
  obtain ⟨f68,fd68,m68,F68⟩:=cG "_law_is_in" j6 490 489 "law_leastdeeds_k06_what_is_refused_of_runs" 750 KX G
  obtain ⟨f69,fd69,m69,F69⟩:=cG "_law_numbers" gz 495 494 "law_leastdeeds_k06_what_is_refused_of_runs" 750 KX G
  obtain ⟨f70,fd70,m70,F70⟩:=cG "_law_is_deed" gA 500 499 "law_leastdeeds_k06_what_is_refused_of_runs" 750 KX G
  obtain ⟨f71,fd71,m71,F71⟩:=cG "_law_is_machine" eY 505 504 "law_leastdeeds_k06_what_is_refused_of_runs" 750 KX G
  obtain ⟨f90,fd90,m90,F90⟩:=cG "_law_row_due" iV 512 511 "law_leastdeeds_k06_what_is_refused_of_runs" 750 KX G
  obtain ⟨f72,fd72,m72,F72⟩:=cG "_law_bent" kD 519 518 "law_leastdeeds_k06_what_is_refused_of_runs" 750 KX G
  obtain ⟨f75,fd75,m75,F75⟩:=cG "_law_refusal" iW 526 525 "law_leastdeeds_k06_what_is_refused_of_runs" 750 KX G
  obtain ⟨f98,fd98,m98,F98⟩:=cG "_law_told" kA 533 532 "law_leastdeeds_k06_what_is_refused_of_runs" 750 KX G
  obtain ⟨f99,fd99,m99,F99⟩:=cG "_law_due" lQ 540 539 "law_leastdeeds_k06_what_is_refused_of_runs" 750 KX G
  obtain ⟨f100,fd100,m100,F100⟩:=cG "law" qh 545 544 "law_leastdeeds_k06_what_is_refused_of_runs" 750 KX G
  have z_ValueError:mg "ValueError"=none:=LD.fF KX G (by kernel_rfl)
  have z_all:mg "all"=none:=LD.fF KX G (by kernel_rfl)
  have z_bool:mg "bool"=none:=LD.fF KX G (by kernel_rfl)
  have z_enumerate:mg "enumerate"=none:=LD.fF KX G (by kernel_rfl)
  have z_int:mg "int"=none:=LD.fF KX G (by kernel_rfl)
  have z_isinstance:mg "isinstance"=none:=LD.fF KX G (by kernel_rfl)
  have z_len:mg "len"=none:=LD.fF KX G (by kernel_rfl)
  have z_list:mg "list"=none:=LD.fF KX G (by kernel_rfl)
  have z_range:mg "range"=none:=LD.fF KX G (by kernel_rfl)
  have z_repr:mg "repr"=none:=LD.fF KX G (by kernel_rfl)
  have z_str:mg "str"=none:=LD.fF KX G (by kernel_rfl)
  have z_tuple:mg "tuple"=none:=LD.fF KX G (by kernel_rfl)
  have z_zip:mg "zip"=none:=LD.fF KX G (by kernel_rfl)
  have c_LEAST_WORDS:∃t,mg "LEAST_WORDS"=some (.int 2 t):=LD.l9 (t:=471) KX G (by kernel_rfl)
  have c_LONGEST_ROW:∃t,mg "LONGEST_ROW"=some (.int 40 t):=LD.l9 (t:=481) KX G (by kernel_rfl)
  have c_MOST_COST:∃t,mg "MOST_COST"=some (.int 3 t):=LD.l9 (t:=479) KX G (by kernel_rfl)
  have c_MOST_DEEDS:∃t,mg "MOST_DEEDS"=some (.int 6 t):=LD.l9 (t:=477) KX G (by kernel_rfl)
  have c_MOST_PLACES:∃t,mg "MOST_PLACES"=some (.int 2 t):=LD.l9 (t:=475) KX G (by kernel_rfl)
  have c_MOST_WORDS:∃t,mg "MOST_WORDS"=some (.int 4 t):=LD.l9 (t:=473) KX G (by kernel_rfl)
  have b20:=LD.cz (x:="turned") (f:=347) KX G (by kernel_rfl)
  have b21:=LD.cz (x:="joined") (f:=354) KX G (by kernel_rfl)
  have b22:=LD.cz (x:="moved") (f:=361) KX G (by kernel_rfl)
  have b23:=LD.cz (x:="put_in") (f:=368) KX G (by kernel_rfl)
  have d_NEW_WORDS:=LD.wt (x:="NEW_WORDS") (P:=w.params) (fa:=K06.rX [(0,f0),(1,f1),(2,f2),(3,f3),(4,f4),(5,f5),(6,f6),(7,f7),(8,f8),(9,f9),(10,f10),(11,f11),(12,f12),(13,f13),(14,f14),(15,f15),(16,f16),(17,f17),(18,f18),(20,f20),(21,f21),(22,f22),(23,f23),(24,f24),(25,f25),(26,f26),(46,f46),(27,f27),(28,f28),(29,f29),(30,f30),(31,f31),(64,f64),(65,f65),(66,f66),(67,f67),(40,f40),(32,f32),(33,f33),(34,f34),(35,f35),(68,f68),(69,f69),(70,f70),(71,f71),(90,f90),(72,f72),(75,f75),(98,f98),(99,f99),(100,f100)]) (fs:=LD.dX) (ad:=369) (es:=#[{hash:=PySem.PyData.keyHash w.params (PySem.Str.ofString "turn"),key:=PySem.Value.str (PySem.Str.ofString "turn") 697,val:=PySem.Value.ref 347},{hash:=PySem.PyData.keyHash w.params (PySem.Str.ofString "join"),key:=PySem.Value.str (PySem.Str.ofString "join") 698,val:=PySem.Value.ref 354},{hash:=PySem.PyData.keyHash w.params (PySem.Str.ofString "move"),key:=PySem.Value.str (PySem.Str.ofString "move") 699,val:=PySem.Value.ref 361},{hash:=PySem.PyData.keyHash w.params (PySem.Str.ofString "put"),key:=PySem.Value.str (PySem.Str.ofString "put") 700,val:=PySem.Value.ref 368}]) (n:=4) KX G (by kernel_rfl) (by kernel_rfl) (by exact LD.iL (LD.iL (LD.iL (LD.iL (LD.zM))))) (by decide +kernel) (by decide) (by exact LD.gL rfl m20 b20 (LD.gL rfl m21 b21 (LD.gL rfl m22 b22 (LD.gL rfl m23 b23 (.nil)))))
  have b7:=LD.cz (x:="is_turn") (f:=268) KX G (by kernel_rfl)
  have b8:=LD.cz (x:="is_join") (f:=275) KX G (by kernel_rfl)
  have b9:=LD.cz (x:="is_move") (f:=282) KX G (by kernel_rfl)
  have b10:=LD.cz (x:="is_put") (f:=289) KX G (by kernel_rfl)
  have d_SORTS:=LD.wt (x:="SORTS") (P:=w.params) (fa:=K06.rX [(0,f0),(1,f1),(2,f2),(3,f3),(4,f4),(5,f5),(6,f6),(7,f7),(8,f8),(9,f9),(10,f10),(11,f11),(12,f12),(13,f13),(14,f14),(15,f15),(16,f16),(17,f17),(18,f18),(20,f20),(21,f21),(22,f22),(23,f23),(24,f24),(25,f25),(26,f26),(46,f46),(27,f27),(28,f28),(29,f29),(30,f30),(31,f31),(64,f64),(65,f65),(66,f66),(67,f67),(40,f40),(32,f32),(33,f33),(34,f34),(35,f35),(68,f68),(69,f69),(70,f70),(71,f71),(90,f90),(72,f72),(75,f75),(98,f98),(99,f99),(100,f100)]) (fs:=LD.dJ) (ad:=290) (es:=#[{hash:=PySem.PyData.keyHash w.params (PySem.Str.ofString "turn"),key:=PySem.Value.str (PySem.Str.ofString "turn") 575,val:=PySem.Value.ref 268},{hash:=PySem.PyData.keyHash w.params (PySem.Str.ofString "join"),key:=PySem.Value.str (PySem.Str.ofString "join") 576,val:=PySem.Value.ref 275},{hash:=PySem.PyData.keyHash w.params (PySem.Str.ofString "move"),key:=PySem.Value.str (PySem.Str.ofString "move") 577,val:=PySem.Value.ref 282},{hash:=PySem.PyData.keyHash w.params (PySem.Str.ofString "put"),key:=PySem.Value.str (PySem.Str.ofString "put") 578,val:=PySem.Value.ref 289}]) (n:=4) KX G (by kernel_rfl) (by kernel_rfl) (by exact LD.iL (LD.iL (LD.iL (LD.iL (LD.zM))))) (by decide +kernel) (by decide) (by exact LD.gL rfl m7 b7 (LD.gL rfl m8 b8 (LD.gL rfl m9 b9 (LD.gL rfl m10 b10 (.nil)))))
  have i_NoRow:=LD.BX (fa:=K06.rX [(0,f0),(1,f1),(2,f2),(3,f3),(4,f4),(5,f5),(6,f6),(7,f7),(8,f8),(9,f9),(10,f10),(11,f11),(12,f12),(13,f13),(14,f14),(15,f15),(16,f16),(17,f17),(18,f18),(20,f20),(21,f21),(22,f22),(23,f23),(24,f24),(25,f25),(26,f26),(46,f46),(27,f27),(28,f28),(29,f29),(30,f30),(31,f31),(64,f64),(65,f65),(66,f66),(67,f67),(40,f40),(32,f32),(33,f33),(34,f34),(35,f35),(68,f68),(69,f69),(70,f70),(71,f71),(90,f90),(72,f72),(75,f75),(98,f98),(99,f99),(100,f100)]) (w:=w) (c:=0) (x:="NoRow") (qual:="NoRow.__init__") (y:="place") (z:="no deed's number at place ") (pm:="leastdeeds.errors") (t:=187) (st:=AR) (C:=44) (D:=24) (fI:=41) (cd:=40) KX G (by kernel_rfl) (by kernel_rfl) rfl (by kernel_rfl) (by kernel_rfl) (by kernel_rfl) (by kernel_rfl) ⟨rfl,rfl,rfl,by decide +kernel,rfl,by decide +kernel,by decide +kernel⟩ rfl (fun _ _=>⟨_,rfl⟩) (by decide +kernel) rfl rfl rfl rfl (fun _ _=>rfl) (fun _ _ _ _ _ _ _ _=>rfl)
  have T:=K06.Txt.mk (w:=w) (fa:=K06.rX [(0,f0),(1,f1),(2,f2),(3,f3),(4,f4),(5,f5),(6,f6),(7,f7),(8,f8),(9,f9),(10,f10),(11,f11),(12,f12),(13,f13),(14,f14),(15,f15),(16,f16),(17,f17),(18,f18),(20,f20),(21,f21),(22,f22),(23,f23),(24,f24),(25,f25),(26,f26),(46,f46),(27,f27),(28,f28),(29,f29),(30,f30),(31,f31),(64,f64),(65,f65),(66,f66),(67,f67),(40,f40),(32,f32),(33,f33),(34,f34),(35,f35),(68,f68),(69,f69),(70,f70),(71,f71),(90,f90),(72,f72),(75,f75),(98,f98),(99,f99),(100,f100)]) (z_ValueError) (z_all) (z_bool) (z_enumerate) (z_int) (z_isinstance) (z_len) (z_list) (z_range) (z_repr) (z_str) (z_tuple) (z_zip) (c_LEAST_WORDS) (c_LONGEST_ROW) (c_MOST_COST) (c_MOST_DEEDS) (c_MOST_PLACES) (c_MOST_WORDS) (d_NEW_WORDS) (d_SORTS) (LD.Fd (by kernel_rfl)) (⟨24,LD.cz (x:="DeedError") (f:=24) KX G (by kernel_rfl),rfl⟩) (⟨44,LD.cz (x:="NoRow") (f:=44) KX G (by kernel_rfl),rfl⟩) (⟨63,LD.cz (x:="NoRule") (f:=63) KX G (by kernel_rfl),rfl⟩) (⟨82,LD.cz (x:="NoStep") (f:=82) KX G (by kernel_rfl),rfl⟩) (⟨94,LD.cz (x:="NoMachine") (f:=94) KX G (by kernel_rfl),rfl⟩) (⟨106,LD.cz (x:="TooLong") (f:=106) KX G (by kernel_rfl),rfl⟩) (⟨118,LD.cz (x:="NoWord") (f:=118) KX G (by kernel_rfl),rfl⟩) (⟨130,LD.cz (x:="NoWork") (f:=130) KX G (by kernel_rfl),rfl⟩) (⟨142,LD.cz (x:="NoBound") (f:=142) KX G (by kernel_rfl),rfl⟩) (⟨154,LD.cz (x:="TooMany") (f:=154) KX G (by kernel_rfl),rfl⟩) (⟨166,LD.cz (x:="NoPlace") (f:=166) KX G (by kernel_rfl),rfl⟩) (⟨178,LD.cz (x:="NoDeed") (f:=178) KX G (by kernel_rfl),rfl⟩) (⟨190,LD.cz (x:="Nothing") (f:=190) KX G (by kernel_rfl),rfl⟩) (⟨202,LD.cz (x:="NoText") (f:=202) KX G (by kernel_rfl),rfl⟩) (⟨214,LD.cz (x:="NoLine") (f:=214) KX G (by kernel_rfl),rfl⟩) (⟨94,LD.cz (x:="NoMachine") (f:=94) KX G (by kernel_rfl),rfl,by kernel_rfl⟩) (⟨106,LD.cz (x:="TooLong") (f:=106) KX G (by kernel_rfl),rfl,by kernel_rfl⟩) (⟨118,LD.cz (x:="NoWord") (f:=118) KX G (by kernel_rfl),rfl,by kernel_rfl⟩) (i_NoRow) (LD.yC (by kernel_rfl)) (LD.yC (by kernel_rfl)) (LD.mm rfl m0) (LD.mm rfl m1) (LD.mm rfl m2) (LD.mm rfl m3) (LD.mm rfl m4) (LD.mm rfl m5) (LD.mm rfl m6) (LD.mm rfl m11) (LD.mm rfl m12) (LD.mm rfl m13) (LD.mm rfl m14) (LD.mm rfl m15) (LD.mm rfl m16) (LD.mm rfl m17) (LD.mm rfl m18) (LD.mm rfl m24) (LD.mm rfl m25) (LD.mm rfl m26) (LD.mm rfl m27) (LD.mm rfl m28) (LD.mm rfl m29) (LD.mm rfl m30) (LD.mm rfl m31) (LD.mm rfl m32) (LD.mm rfl m33) (LD.mm rfl m34) (LD.mm rfl m35) (LD.mm rfl m40) (LD.mm rfl m46) (LD.mm rfl m64) (LD.mm rfl m65) (LD.mm rfl m66) (LD.mm rfl m67) (LD.mm rfl m68) (LD.mm rfl m69) (LD.mm rfl m70) (LD.mm rfl m71) (LD.mm rfl m72) (LD.mm rfl m75) (LD.mm rfl m90) (LD.mm rfl m98) (LD.mm rfl m99)
  have e:=hmg.symm.trans m100
  cases e
  exact ⟨fd100,fun s v=>by
   obtain ⟨oc,od,kV,doc,pm,an,cdv,ct,osl,rfl,lk,hcd⟩:=F100.ex
   exact .of_eq rfl,fun base _ _=>LD.Hz (n:=39) (f:=100) (K06.ER F0 F1 F2 F3 F4 F5 F6 F7 F8 F9 F10 F11 F12 F13 F14 F15 F16 F17 F18 F20 F21 F22 F23 F24 F25 F26 F46 F27 F28 F29 F30 F31 F64 F65 F66 F67 F40 F32 F33 F34 F35 F68 F69 F70 F71 F90 F72 F75 F98 F99 F100 T) K06.BO rfl F100 (K06.cD (ps:=["script"]) K06.fE) rfl fun c n a b d s H E C hr=>K06.CP T c n a b d s H E C hr⟩
