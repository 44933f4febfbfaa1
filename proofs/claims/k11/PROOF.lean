import PyProof.Rows.All
import Wide.All
import OpenK.AllK
import Wide.FinOn
import Lean
import PyProof.EqAt
import PyProof.EqKinds
import PyProof.TupleCall
import PyProof.StrOps
import PyProof.MeetsStr
import PyProof.StrLawsJoin
import PySem.Challenge.RW_leastdeeds_k11_what_is_refused_of_two_ro
set_option Elab.async false
set_option linter.all false
set_option maxRecDepth 100000
set_option maxHeartbeats 0
noncomputable section
abbrev tqa:=@PySem.wpAny_bind
abbrev tqb:=@PySem.wpAny_pure
abbrev tqc:=@PySem.Heap.get?_push_of_some
abbrev tqd:=@PySem.Heap.lt_size
abbrev tqe:=@PySem.Heap.get?_push_size
abbrev tqf:=@PySem.wpAny_field
abbrev tqg:=@Nat.le_refl
abbrev tqh:=@Nat.le_trans
abbrev tqi:=@Nat.lt_of_lt_of_le
abbrev tqj:=@Bool.false_ne_true
abbrev tqk:=@Nat.ne_of_lt
abbrev tql:=@PySem.Heap.get?_update_other
abbrev tqm:=@PySem.Heap.get?_update_self
abbrev tqn:=@Nat.lt_irrefl
abbrev tqo:=@PySem.wpAny_holding
abbrev tqp:=@PySem.wpAny_truthy_bool
abbrev tqq:=@Nat.le_of_ble_eq_true
namespace HD
open PySem PySem.W
def lT (tb:String->Option Builtin)(p:Program)(w:World)(n0:Nat)(ann:Option Value):Nat->SharedT->Thread->Option SharedT
 |0,_,_=>none
 | n + 1, s, t => match through t with
   |true=>some s
   | false => match stepOk n0 ann t with
     |false=>none
     | true => match stepT (denote tb) p w s t with
       |some (s',t')=>lT tb p w n0 ann n s' t'
       |none=>none
theorem so {tb:String->Option Builtin}{p:Program}{w:World}{n0:Nat}{ann:Option Value}:∀{n:Nat}{s s':SharedT}{t:Thread},lT tb p w n0 ann n s t=some s'->topRun tb p w n0 ann n s.abs t=some s'.abs
 |0,_,_,_,h=>by cases h
 | n + 1, s, s', t, h => by
   unfold lT at h
   unfold topRun
   cases he:through t with
   |true=>rw [he] at h;cases h;rfl
   | false =>
     rw [he] at h
     cases hk:stepOk n0 ann t with
     |false=>rw [hk] at h;cases h
     | true =>
       rw [hk] at h
       cases hs:stepT (denote tb) p w s t with
       |none=>rw [hs] at h;cases h
       |some r=>obtain ⟨s2,t2⟩:=r;rw [hs] at h;rw [stepT_spec hs];exact so h
def treeOf:List Obj->Nat->BT->BT
 |[],_,t=>t
 |o::r,n,t=>treeOf r (n+1) (t.ins n o)
def yp (P:Params)(os:OsState):SharedT:=⟨treeOf (boot_heap P).objs.toList 0 .nil,(boot_heap P).objs.toList.length,(boot_heap P).life,#[],boot_drawn,boot_toks,os⟩
theorem boot_abs (P:Params)(os:OsState):(yp P os).abs=⟨boot_heap P,#[],boot_drawn,boot_toks,os⟩:=by kernel_rfl
def xS (p q:Program)(loose:List Str)(Xt:Shared->Bool)(g0:Bool)(h0:Heap){α:Type}(Yf:Shared->α)(s:Shared):=
 ((staticsOk (importedModules p.main.body) h0 s.heap&&namesBound p s.heap&&gensDone s&&laidKept h0 s.heap),openSeen q loose (importedModules p.main.body) Xt g0 s,Yf s)
end HD
namespace HD
open PySem PySem.W
def wG (tb:String->Option Builtin)(p:Program)(w:World)(n0:Nat)(ann:Option Value):Nat->SharedT->Thread->Option (SharedT×Thread)
 |0,s,t=>some (s,t)
 | n + 1, s, t => match through t with
   |true=>none
   | false => match stepOk n0 ann t with
     |false=>none
     | true => match stepT (denote tb) p w s t with
       |some (s',t')=>wG tb p w n0 ann n s' t'
       |none=>none
def nv (tb:String->Option Builtin)(p:Program)(w:World)(n0:Nat)(ann:Option Value):Nat->SharedT->Thread->Option (Flow×SharedT×Code×Pos)
 |0,_,_=>none
 | n + 1, s, t => match endAt 1 t with
   |some f=>some (f,s,t.code,t.pos)
   | none => match stepOk n0 ann t with
     |false=>none
     | true => match stepT (denote tb) p w s t with
       |some (s',t')=>nv tb p w n0 ann n s' t'
       |none=>none
section
variable {tb:String->Option Builtin}{p:Program}{w:World}{n0:Nat}{ann:Option Value}
theorem zX:∀{n:Nat}{s s':SharedT}{t t':Thread},wG tb p w n0 ann n s t=some (s',t')->topGo tb p w n0 ann n s.abs t=some (s'.abs,t')
 |0,s,s',t,t',h=>by cases h;rfl
 | n + 1, s, s', t, t', h => by
   unfold wG at h
   unfold topGo
   cases he:through t with
   |true=>rw [he] at h;cases h
   | false =>
     rw [he] at h
     cases hk:stepOk n0 ann t with
     |false=>rw [hk] at h;cases h
     | true =>
       rw [hk] at h
       cases hs:stepT (denote tb) p w s t with
       |none=>rw [hs] at h;cases h
       |some q=>obtain ⟨s2,t2⟩:=q;rw [hs] at h;rw [stepT_spec hs];exact zX h
theorem qV:∀{n:Nat}{s s':SharedT}{t:Thread}{f:Flow}{c:Code}{q:Pos},nv tb p w n0 ann n s t=some (f,s',c,q)->segRun tb p w n0 ann 1 n s.abs t=some (f,s'.abs,c,q)
 |0,_,_,_,_,_,_,h=>by cases h
 | n + 1, s, s', t, f, c, q, h => by
   unfold nv at h
   unfold segRun
   cases he:endAt 1 t with
   |some g=>rw [he] at h;cases h;rfl
   | none =>
     rw [he] at h
     cases hk:stepOk n0 ann t with
     |false=>rw [hk] at h;cases h
     | true =>
       rw [hk] at h
       cases hs:stepT (denote tb) p w s t with
       |none=>rw [hs] at h;cases h
       |some x=>obtain ⟨s2,t2⟩:=x;rw [hs] at h;rw [stepT_spec hs];exact qV h
theorem Cf {n1 n2 n3 N:Nat}{s s' s2:SharedT}{env:Env}{c:Code}{pos p' p2 q:Pos}{t:Thread}{b:List Stmt}{J J2:Nat}{α:Type}{f:Shared->α}{a:α}
 (h1:(wG tb p w n0 ann n1 s t).map (·.2)=some ⟨denote tb (.body b env),c,pos,[topFrame q]⟩) (h0:endAt 1 (blockOf b env c pos [topFrame q])=some .next)
 (h2:((wG tb p w n0 ann n1 s t).bind fun x=>nv tb p w n0 ann n2 x.1 (piecesOf (b.take J) env c pos [topFrame q]))=some (.next,s',c,p'))
 (h3:nv tb p w n0 ann n3 s' (piecesOf ((b.drop J).take J2) env c p' [topFrame q])=some (.next,s2,c,p2))
 (h4:(lT tb p w n0 ann N s2 (restOf ((b.drop J).drop J2) env c p2 [topFrame q])).map (fun s=>f s.abs)=some a):(topRun tb p w n0 ann (n1+(1+(n2+(n3+N)))) s.abs t).map f=some a:=by
 obtain ⟨⟨s1,t1⟩,e1,e2⟩:=Option.map_eq_some_iff.mp h1
 have e2:t1=⟨denote tb (.body b env),c,pos,[topFrame q]⟩:=e2
 subst e2
 rw [e1] at h2
 have h2:nv tb p w n0 ann n2 s1 (piecesOf (b.take J) env c pos [topFrame q])=some (.next,s',c,p'):=h2
 obtain ⟨r,e3,e4⟩:=Option.map_eq_some_iff.mp h4
 have k4:=piece_app (qV h3) (so e3)
 rw [List.take_append_drop] at k4
 have k3:=piece_app (qV h2) k4
 rw [List.take_append_drop] at k3
 have hb:segRun tb p w n0 ann 1 1 s1.abs (blockOf b env c pos [topFrame q])=some (.next,s1.abs,c,pos):=by
  show (match endAt 1 (blockOf b env c pos [topFrame q]) with|some f=>some (f,s1.abs,c,pos)|none=>_)=_
  rw [h0]
 have k2:=piece_block hb k3
 rw [go_top (zX e1) k2]
 exact congrArg some e4
end
theorem vQ {p q:Program}{loose:List Str}{Xt:Shared->Bool}{α:Type}{Yf:Shared->α}{Ya:World->α}{N:Nat}{g0:Bool}{m0:Nat}{ann:Option Value}
 (open_:∀w:World,(fencedOpening treeTable p w N).map (fun s=>(s.heap,s.gens,s.drawn,s.toks))=some (boot_heap w.params,Array.mk [],boot_drawn,boot_toks))
 (size:∀w:World,((boot_heap w.params).isNs mainGlobals&&(Array.mk ([]:List GenState)).size==0,(boot_heap w.params).objs.size,(boot_heap w.params).nsMap mainGlobals "__annotations__")=(true,m0,ann))
 (run:∀(w:World) (os:OsState),(topRun treeTable p w m0 ann N (yp w.params os).abs (topStub p)).map (xS p q loose Xt g0 (boot_heap w.params) Yf)=some (true,openGood q loose,Ya w)):LeftO p q loose Xt Yf Ya N g0:=fun w=>by
 obtain ⟨⟨h,gs,d,k,os⟩,e,e'⟩:=Option.map_eq_some_iff.mp (open_ w)
 obtain ⟨rfl,rfl,rfl,rfl⟩:h=boot_heap w.params/\gs=Array.mk []/\d=boot_drawn/\k=boot_toks:=by simpa using e'
 obtain ⟨z1,z2,z3⟩:_/\_/\_:=by simpa only [Prod.mk.injEq] using size w
 obtain ⟨s1,r,l⟩:=Option.map_eq_some_iff.mp (run w os)
 obtain ⟨l1,l2,l3⟩:_/\_/\_:=by simpa only [xS,Prod.mk.injEq] using l
 rw [boot_abs] at r
 have t:topFrom treeTable p w N ⟨boot_heap w.params,Array.mk [],boot_drawn,boot_toks,os⟩=some s1:=by
  unfold topFrom
  dsimp only
  rw [z1,z2,z3,r]
  show (match staticsOk (importedModules p.main.body) (boot_heap w.params) s1.heap&&namesBound p s1.heap&&gensDone s1&&laidKept (boot_heap w.params) s1.heap with|true=>_|false=>_)=_
  rw [l1]
 unfold openEnds
 rw [e]
 show (topFrom treeTable p w N _).map _=_
 rw [t]
 exact congrArg some (Prod.ext l2 l3)
end HD
namespace K11
open PySem
abbrev eN (P:Params)(x:Str)(n:Nat)(v:Value):DictEntry:=⟨PyData.keyHash P x,.str x n,v⟩
abbrev fL:String:="law_leastdeeds_k11_what_is_refused_of_two_ro"
def rL (s:Stmt):Stmt:=match s with
 |.ClassDef _ _ _ (b::_) _ _ _ _ _ _ _=>b
 |_=>s
def jT (i:Nat):Stmt:=PySem.Challenge.pw_leastdeeds_k11_what_is_refused_of_two_ro.main.body.getD i (.Pass ⟨0,0,0,0⟩)
def tY (s:Stmt):Arguments:=match s with
 |.FunctionDef _ a _ _ _ _ _ _ _ _=>a
 |_=>⟨[],[],none,[],[],none,[]⟩
def tX (s:Stmt):List Stmt:=match s with
 |.FunctionDef _ _ b _ _ _ _ _ _ _=>b
 |_=>[]
def qu (s:Stmt):Scope:=match s with
 |.FunctionDef _ _ _ _ _ _ sc _ _ _=>sc
 |_=>{kind:=.function,names:=[],isGenerator:=false,isCoroutine:=false}
def o1:Obj:={cls:=.type "tuple" ,data:=.seq #[]}
def o2 (a:String)(b:Nat)(c:Int)(d:Nat)(e:Int):Obj:={cls:=.type "code" ,data:=.fields #[.str (Str.ofString a) b ,.str (Str.ofString a) (b+1) ,.str ("/claim/cut.py") (b+2) ,.int c 0 ,.int 0 0 ,.int 0 0 ,.int 0 0 ,.int 0 0 ,.ref d ,.bool false ,.int 181 0 ,.ref (d+1) ,.none ,.none ,.none ,.none ,.int e 0 ,.int c 0 ,.str ("/claim/cut.py") (b+4)]}
def o3 (a:Nat)(b:Nat)(c:String)(d:Nat):Obj:={cls:=.type "frame" ,slots:=#[some (.ref a) ,some (.ref 3) ,some (.ref b) ,none ,some (.str (Str.ofString c) d) ,none ,some (.ref 0)]}
def o4:Obj:={cls:=.type "builtin_function_or_method" ,data:=.fields #[.builtin "type.__prepare__" ,.type "type"]}
def o5 (P:Params)(a:Nat)(b:String)(c:Int)(d:Nat):Obj:={cls:=.type "dict" ,data:=.dict #[{hash:=PyData.keyHash P ("__module__") ,key:=.str ("__module__") a ,val:=.str ("leastdeeds.errors") 187} ,{hash:=PyData.keyHash P ("__qualname__") ,key:=.str ("__qualname__") (a+2) ,val:=.str (Str.ofString b) (a+1)} ,{hash:=PyData.keyHash P ("__firstlineno__") ,key:=.str ("__firstlineno__") (a+4) ,val:=.int c (a+3)} ,{hash:=PyData.keyHash P ("__static_attributes__") ,key:=.str ("__static_attributes__") (a+5) ,val:=.ref d}] 4}
def o6:Obj:={cls:=.none ,data:=.fields #[]}
def o7 (P:Params)(a:Nat)(b:Int)(c:String)(d:Nat)(e:Nat)(f:String)(g:Nat)(h:Nat):Obj:={cls:=.type "dict" ,data:=.dict #[{hash:=PyData.keyHash P ("__module__") ,key:=.str ("__module__") a ,val:=.str ("leastdeeds.errors") 187} ,{hash:=PyData.keyHash P ("__firstlineno__") ,key:=.str ("__firstlineno__") (a+4) ,val:=.int b (a+3)} ,{hash:=PyData.keyHash P (Str.ofString c) ,key:=.str (Str.ofString c) d ,val:=.ref e} ,{hash:=PyData.keyHash P (Str.ofString f) ,key:=.str (Str.ofString f) (d+2) ,val:=.ref g} ,{hash:=PyData.keyHash P ("__doc__") ,key:=.str ("__doc__") (d+3) ,val:=.none}] h}
def o8 (a:Nat):Obj:={cls:=.type "super" ,data:=.fields #[.ref a ,.ref a ,.ref a]}
def o9 (a:Nat):Obj:={cls:=.type "builtin_function_or_method" ,data:=.fields #[.builtin "object.__init_subclass__" ,.ref a]}
def lu:Obj:={cls:=.type "tuple" ,data:=.seq #[.ref 24]}
def GI (P:Params)(a:Nat)(b:String)(c:Int)(d:Nat):Obj:={cls:=.type "dict" ,data:=.dict #[{hash:=PyData.keyHash P ("__module__") ,key:=.str ("__module__") a ,val:=.str ("leastdeeds.errors") 187} ,{hash:=PyData.keyHash P ("__qualname__") ,key:=.str ("__qualname__") (a+2) ,val:=.str (Str.ofString b) (a+1)} ,{hash:=PyData.keyHash P ("__firstlineno__") ,key:=.str ("__firstlineno__") (a+4) ,val:=.int c (a+3)} ,{hash:=PyData.keyHash P ("__init__") ,key:=.str ("__init__") (a+12) ,val:=.ref d} ,{hash:=PyData.keyHash P ("__static_attributes__") ,key:=.str ("__static_attributes__") (a+14) ,val:=.ref (d+1)}] 5}
def GH (a:Int)(b:Nat):Obj:={cls:=.none ,data:=.fields #[.int a 0 ,.int 4 0 ,.ref b]}
def wu (a:String)(b:Nat)(c:String):Obj:={cls:=.type "tuple" ,data:=.seq #[.str (Str.ofString a) b ,.str (Str.ofString c) (b+1)]}
def GG (a:String)(b:Nat):Obj:={cls:=.none ,data:=.func {name:="__init__" ,qualname:=Str.ofString a ,params:=tY (rL (jT b)) ,body:=PySem.FuncBody.stmts (tX (rL (jT b))) ,scope:=qu (rL (jT b)) ,globals:=0 ,closure:=[] ,defaults:=.none ,kwdefaults:=.none ,pyModule:=.none ,code:=.none}}
def cx (a:String)(b:Nat)(c:String)(d:Int)(e:Int)(f:Nat)(g:Int)(h:Nat):Obj:={cls:=.type "code" ,data:=.fields #[.str (Str.ofString a) b ,.str (Str.ofString c) (b+1) ,.str ("/claim/cut.py") (b+2) ,.int d 0 ,.int e 0 ,.int 0 0 ,.int 0 0 ,.int 3 0 ,.ref f ,.bool true ,.int 181 0 ,.ref (f+1) ,.none ,.ref (f+2) ,.ref (f+3) ,.ref (f+4) ,.int g 0 ,.int d 0 ,.str ("/claim/cut.py") h]}
def CK (a:String)(b:Nat)(c:Nat):Obj:={cls:=.type "function" ,data:=.func {name:="__init__" ,qualname:=Str.ofString a ,params:=tY (rL (jT b)) ,body:=PySem.FuncBody.stmts (tX (rL (jT b))) ,scope:=qu (rL (jT b)) ,globals:=3 ,closure:=[] ,defaults:=.none ,kwdefaults:=.none ,pyModule:=.str ("leastdeeds.errors") 187 ,code:=.ref c}}
def zH (a:String)(b:Nat):Obj:={cls:=.type "tuple" ,data:=.seq #[.str (Str.ofString a) b]}
def e9 (a:String)(b:Nat)(c:Nat)(d:Nat)(e:Nat):Obj:={cls:=.type "type" ,data:=.cls {name:=Str.ofString a ,bases:=[.ref 24] ,mro:=[.ref b ,.ref 24 ,.type "ValueError" ,.type "Exception" ,.type "BaseException" ,.type "object"] ,ns:=c ,qualname:=Str.ofString a} ,slots:=#[some (.ref d) ,none ,some (.str (Str.ofString a) e) ,some (.str (Str.ofString a) (e+8)) ,some (.builtin "ValueError.__new__") ,some (.bool true)]}
def gQ (P:Params)(a:Nat)(b:Int)(c:Nat):Obj:={cls:=.type "dict" ,data:=.dict #[{hash:=PyData.keyHash P ("__module__") ,key:=.str ("__module__") a ,val:=.str ("leastdeeds.errors") 187} ,{hash:=PyData.keyHash P ("__firstlineno__") ,key:=.str ("__firstlineno__") (a+4) ,val:=.int b (a+3)} ,{hash:=PyData.keyHash P ("__static_attributes__") ,key:=.str ("__static_attributes__") (a+5) ,val:=.ref c} ,{hash:=PyData.keyHash P ("__doc__") ,key:=.str ("__doc__") (a+6) ,val:=.none}] 2}
def kT (a:String)(b:Nat):Obj:={cls:=.none ,data:=.func {name:=Str.ofString a ,qualname:=Str.ofString a ,params:=tY (jT b) ,body:=PySem.FuncBody.stmts (tX (jT b)) ,scope:=qu (jT b) ,globals:=0 ,closure:=[] ,defaults:=.none ,kwdefaults:=.none ,pyModule:=.none ,code:=.none}}
def bU (a:String)(b:Nat)(c:String)(d:Nat)(e:Nat):Obj:={cls:=.type "function" ,data:=.func {name:=Str.ofString a ,qualname:=Str.ofString a ,params:=tY (jT b) ,body:=PySem.FuncBody.stmts (tX (jT b)) ,scope:=qu (jT b) ,globals:=3 ,closure:=[] ,defaults:=.none ,kwdefaults:=.none ,pyModule:=.str (Str.ofString c) d ,code:=.ref e}}
def jL (a:String)(b:Nat)(c:Int)(d:Int)(e:Nat)(f:Int):Obj:={cls:=.type "code" ,data:=.fields #[.str (Str.ofString a) b ,.str (Str.ofString a) (b+1) ,.str ("/claim/cut.py") (b+2) ,.int c 0 ,.int d 0 ,.int 0 0 ,.int 0 0 ,.int 3 0 ,.ref e ,.bool true ,.int 181 0 ,.ref (e+1) ,.none ,.none ,.none ,.ref (e+2) ,.int f 0 ,.int c 0 ,.str ("/claim/cut.py") (b+4)]}
def GF (a:Nat)(b:String):Obj:={cls:=.type "tuple" ,data:=.seq #[.str ("words") a ,.str ("places") (a+1) ,.str ("parts") (a+2) ,.str ("at") (a+3) ,.str (Str.ofString b) (a+4) ,.str ("price") (a+5)]}
def GD (P:Params)(a:Nat)(b:Nat):Obj:={cls:=.type "dict" ,data:=.dict #[{hash:=PyData.keyHash P ("turn") ,key:=.str ("turn") a ,val:=.ref b} ,{hash:=PyData.keyHash P ("join") ,key:=.str ("join") (a+1) ,val:=.ref (b+7)} ,{hash:=PyData.keyHash P ("move") ,key:=.str ("move") (a+2) ,val:=.ref (b+14)} ,{hash:=PyData.keyHash P ("put") ,key:=.str ("put") (a+3) ,val:=.ref (b+21)}] 4}
def Kj:Obj:={cls:=.type "type" ,data:=.cls {name:="DeedError" ,bases:=[.type "ValueError"] ,mro:=[.ref 24 ,.type "ValueError" ,.type "Exception" ,.type "BaseException" ,.type "object"] ,ns:=23 ,qualname:="DeedError" ,subclasses:=[.ref 44 ,.ref 63 ,.ref 82 ,.ref 94 ,.ref 106 ,.ref 118 ,.ref 130 ,.ref 142 ,.ref 154 ,.ref 166 ,.ref 178 ,.ref 190 ,.ref 202 ,.ref 214]} ,slots:=#[some (.ref 15) ,none ,some (.str ("DeedError") 189) ,some (.str ("DeedError") 197) ,some (.builtin "ValueError.__new__") ,some (.bool true)]}
noncomputable def kh:Params->PySem.W.Frag:=fun P=>[(2,{cls:=.none,data:=.dict #[]}),
 (3,{cls:=.type "dict",data:=.dict #[eN P "__name__" 165 (.str fL 751),eN P "__doc__" 166 (.none),eN P "__package__" 167 (.none),eN P "__loader__" 168 (.builtin "__main__.__loader__#opaque"),eN P "__spec__" 169 (.none),eN P "__annotations__" 170 (.ref 6),eN P "__builtins__" 171 (.ref 4),eN P "__file__" 173 (.str "/claim/cut.py" 172),eN P "__cached__" 174 (.none),eN P "DeedError" 206 (.ref 24),eN P "NoRow" 231 (.ref 44),eN P "NoRule" 256 (.ref 63),eN P "NoStep" 281 (.ref 82),eN P "NoMachine" 297 (.ref 94),eN P "TooLong" 313 (.ref 106),eN P "NoWord" 329 (.ref 118),eN P "NoWork" 345 (.ref 130),eN P "NoBound" 361 (.ref 142),eN P "TooMany" 377 (.ref 154),eN P "NoPlace" 393 (.ref 166),eN P "NoDeed" 409 (.ref 178),eN P "Nothing" 425 (.ref 190),eN P "NoText" 441 (.ref 202),eN P "NoLine" 457 (.ref 214),eN P "is_between" 468 (.ref 223),eN P "LEAST_WORDS" 472 (.int 2 471),eN P "MOST_WORDS" 474 (.int 4 473),eN P "MOST_PLACES" 476 (.int 2 475),eN P "MOST_DEEDS" 478 (.int 6 477),eN P "MOST_COST" 480 (.int 3 479),eN P "LONGEST_ROW" 482 (.int 40 481),eN P "is_word" 490 (.ref 230),eN P "is_place" 498 (.ref 237),eN P "is_cost" 505 (.ref 244),eN P "is_tuple_of" 513 (.ref 251),eN P "is_table" 519 (.ref 256),eN P "is_double_table" 525 (.ref 261),eN P "is_turn" 537 (.ref 268),eN P "is_join" 550 (.ref 275),eN P "is_move" 562 (.ref 282),eN P "is_put" 574 (.ref 289),eN P "SORTS" 583 (.ref 290),eN P "is_deed" 594 (.ref 297),eN P "is_machine" 600 (.ref 302),eN P "need_machine" 607 (.ref 309),eN P "beginnings" 613 (.ref 314),eN P "is_deed_number" 621 (.ref 321),eN P "need_numbers" 631 (.ref 328),eN P "need_row" 639 (.ref 335),eN P "turned" 653 (.ref 342),eN P "joined" 666 (.ref 349),eN P "moved" 678 (.ref 356),eN P "put_in" 690 (.ref 363),eN P "NEW_WORDS" 699 (.ref 364),eN P "done" 709 (.ref 371),eN P "all_standing" 720 (.ref 378),eN P "ends_of" 726 (.ref 383),eN P "behaviour" 734 (.ref 390),eN P "parted" 750 (.ref 397),eN P "_law_spread" 764 (.ref 404),eN P "_law_open" 774 (.ref 411),eN P "_law_anew" 781 (.ref 418),eN P "_law_take" 792 (.ref 425),eN P "_law_sign_but" 798 (.ref 430),eN P "_law_any_sign" 805 (.ref 437),eN P "_law_signed" 814 (.ref 444),eN P "_law_is_whole" 821 (.ref 451),eN P "_law_same" 827 (.ref 456),eN P "_law_tab" 833 (.ref 461),eN P "_law_deed" 839 (.ref 466),eN P "_law_machine" 853 (.ref 473),eN P "_law_row" 859 (.ref 478),eN P "_law_is_in" 868 (.ref 485),eN P "_law_numbers" 874 (.ref 490),eN P "_law_is_deed" 880 (.ref 495),eN P "_law_is_machine" 886 (.ref 500),eN P "_law_row_due" 896 (.ref 507),eN P "_law_bent" 911 (.ref 514),eN P "_law_refusal" 920 (.ref 521),eN P "_law_told" 931 (.ref 528),eN P "_law_due" 941 (.ref 535),eN P "_law_spoilt" 952 (.ref 542),eN P "law" 970 (.ref 549)] 83}),
 (23,o7 P 196 2 "__static_attributes__" 201 22 "__weakref__" 25 3),
 (24,Kj),
 (40,cx "__init__" 219 "NoRow.__init__" 6 2 35 224 225),
 (41,CK "NoRow.__init__" 2 40),
 (43,o7 P 214 4 "__init__" 226 41 "__static_attributes__" 42 2),
 (44,e9 "NoRow" 44 43 28 207),
 (62,o7 P 239 9 "__init__" 251 60 "__static_attributes__" 61 2),
 (63,e9 "NoRule" 63 62 47 232),
 (81,o7 P 264 14 "__init__" 276 79 "__static_attributes__" 80 2),
 (82,e9 "NoStep" 82 81 66 257),
 (93,gQ P 289 19 92),
 (94,e9 "NoMachine" 94 93 85 282),
 (105,gQ P 305 21 104),
 (106,e9 "TooLong" 106 105 97 298),
 (117,gQ P 321 23 116),
 (118,e9 "NoWord" 118 117 109 314),
 (129,gQ P 337 25 128),
 (130,e9 "NoWork" 130 129 121 330),
 (141,gQ P 353 27 140),
 (142,e9 "NoBound" 142 141 133 346),
 (153,gQ P 369 29 152),
 (154,e9 "TooMany" 154 153 145 362),
 (165,gQ P 385 31 164),
 (166,e9 "NoPlace" 166 165 157 378),
 (177,gQ P 401 33 176),
 (178,e9 "NoDeed" 178 177 169 394),
 (189,gQ P 417 35 188),
 (190,e9 "Nothing" 190 189 181 410),
 (201,gQ P 433 37 200),
 (202,e9 "NoText" 202 201 193 426),
 (213,gQ P 449 39 212),
 (214,e9 "NoLine" 214 213 205 442),
 (222,cx "is_between" 460 "is_between" 42 3 217 466 467),
 (223,bU "is_between" 17 "leastdeeds.wholes" 458 222),
 (229,cx "is_word" 483 "is_word" 53 2 224 488 489),
 (230,bU "is_word" 25 "leastdeeds.machines" 469 229),
 (236,cx "is_place" 491 "is_place" 55 2 231 496 497),
 (237,bU "is_place" 26 "leastdeeds.machines" 469 236),
 (243,cx "is_cost" 499 "is_cost" 57 1 238 503 504),
 (244,bU "is_cost" 27 "leastdeeds.machines" 469 243),
 (250,cx "is_tuple_of" 506 "is_tuple_of" 59 2 245 511 512),
 (251,bU "is_tuple_of" 28 "leastdeeds.machines" 469 250),
 (255,jL "is_table" 514 61 2 252 517),
 (256,bU "is_table" 29 "leastdeeds.machines" 469 255),
 (260,jL "is_double_table" 520 63 2 257 523),
 (261,bU "is_double_table" 30 "leastdeeds.machines" 469 260),
 (267,cx "is_turn" 526 "is_turn" 65 3 262 535 536),
 (268,bU "is_turn" 31 "leastdeeds.machines" 469 267),
 (274,cx "is_join" 538 "is_join" 70 3 269 548 549),
 (275,bU "is_join" 32 "leastdeeds.machines" 469 274),
 (281,cx "is_move" 551 "is_move" 77 3 276 560 561),
 (282,bU "is_move" 33 "leastdeeds.machines" 469 281),
 (288,cx "is_put" 563 "is_put" 82 3 283 572 573),
 (289,bU "is_put" 34 "leastdeeds.machines" 469 288),
 (290,GD P 575 268),
 (296,cx "is_deed" 584 "is_deed" 88 3 291 592 593),
 (297,bU "is_deed" 36 "leastdeeds.machines" 469 296),
 (301,jL "is_machine" 595 96 1 298 598),
 (302,bU "is_machine" 37 "leastdeeds.machines" 469 301),
 (308,cx "need_machine" 601 "need_machine" 105 1 303 605 606),
 (309,bU "need_machine" 38 "leastdeeds.machines" 469 308),
 (313,jL "beginnings" 608 108 1 310 611),
 (314,bU "beginnings" 39 "leastdeeds.machines" 469 313),
 (320,cx "is_deed_number" 614 "is_deed_number" 115 2 315 619 620),
 (321,bU "is_deed_number" 40 "leastdeeds.machines" 469 320),
 (327,cx "need_numbers" 622 "need_numbers" 117 2 322 629 630),
 (328,bU "need_numbers" 41 "leastdeeds.machines" 469 327),
 (334,cx "need_row" 632 "need_row" 123 2 329 637 638),
 (335,bU "need_row" 42 "leastdeeds.machines" 469 334),
 (341,cx "turned" 642 "turned" 129 2 336 651 652),
 (342,bU "turned" 44 "leastdeeds.runs" 640 341),
 (348,cx "joined" 654 "joined" 132 2 343 664 665),
 (349,bU "joined" 45 "leastdeeds.runs" 640 348),
 (355,cx "moved" 667 "moved" 135 2 350 676 677),
 (356,bU "moved" 46 "leastdeeds.runs" 640 355),
 (362,cx "put_in" 679 "put_in" 138 2 357 688 689),
 (363,bU "put_in" 47 "leastdeeds.runs" 640 362),
 (364,GD P 691 342),
 (370,cx "done" 700 "done" 142 2 365 707 708),
 (371,bU "done" 49 "leastdeeds.runs" 640 370),
 (377,cx "all_standing" 710 "all_standing" 146 3 372 718 719),
 (378,bU "all_standing" 50 "leastdeeds.runs" 640 377),
 (382,jL "ends_of" 721 151 2 379 724),
 (383,bU "ends_of" 51 "leastdeeds.runs" 640 382),
 (389,cx "behaviour" 727 "behaviour" 153 2 384 732 733),
 (390,bU "behaviour" 52 "leastdeeds.runs" 640 389),
 (396,cx "parted" 737 "parted" 157 3 391 748 749),
 (397,bU "parted" 54 "leastdeeds.alike" 735 396),
 (403,cx "_law_spread" 753 "_law_spread" 165 2 398 762 763),
 (404,bU "_law_spread" 56 fL 751 403),
 (410,cx "_law_open" 765 "_law_open" 174 1 405 772 773),
 (411,bU "_law_open" 57 fL 751 410),
 (417,cx "_law_anew" 775 "_law_anew" 179 1 412 779 780),
 (418,bU "_law_anew" 58 fL 751 417),
 (424,cx "_law_take" 782 "_law_take" 182 2 419 790 791),
 (425,bU "_law_take" 59 fL 751 424),
 (429,jL "_law_sign_but" 793 195 2 426 796),
 (430,bU "_law_sign_but" 60 fL 751 429),
 (436,cx "_law_any_sign" 799 "_law_any_sign" 200 1 431 803 804),
 (437,bU "_law_any_sign" 61 fL 751 436),
 (443,cx "_law_signed" 806 "_law_signed" 202 2 438 812 813),
 (444,bU "_law_signed" 62 fL 751 443),
 (450,cx "_law_is_whole" 815 "_law_is_whole" 205 1 445 819 820),
 (451,bU "_law_is_whole" 63 fL 751 450),
 (455,jL "_law_same" 822 207 2 452 825),
 (456,bU "_law_same" 64 fL 751 455),
 (460,jL "_law_tab" 828 221 2 457 831),
 (461,bU "_law_tab" 65 fL 751 460),
 (465,jL "_law_deed" 834 237 3 462 837),
 (466,bU "_law_deed" 66 fL 751 465),
 (472,cx "_law_machine" 840 "_law_machine" 249 4 467 851 852),
 (473,bU "_law_machine" 67 fL 751 472),
 (477,jL "_law_row" 854 260 3 474 857),
 (478,bU "_law_row" 68 fL 751 477),
 (484,cx "_law_is_in" 860 "_law_is_in" 267 3 479 866 867),
 (485,bU "_law_is_in" 69 fL 751 484),
 (489,jL "_law_numbers" 869 269 4 486 872),
 (490,bU "_law_numbers" 70 fL 751 489),
 (494,jL "_law_is_deed" 875 273 3 491 878),
 (495,bU "_law_is_deed" 71 fL 751 494),
 (499,jL "_law_is_machine" 881 291 1 496 884),
 (500,bU "_law_is_machine" 72 fL 751 499),
 (506,cx "_law_row_due" 887 "_law_row_due" 297 2 501 894 895),
 (507,bU "_law_row_due" 73 fL 751 506),
 (513,cx "_law_bent" 897 "_law_bent" 306 3 508 909 910),
 (514,bU "_law_bent" 74 fL 751 513),
 (520,cx "_law_refusal" 912 "_law_refusal" 323 1 515 918 919),
 (521,bU "_law_refusal" 75 fL 751 520),
 (527,cx "_law_told" 921 "_law_told" 339 3 522 929 930),
 (528,bU "_law_told" 76 fL 751 527),
 (534,cx "_law_due" 932 "_law_due" 346 3 529 939 940),
 (535,bU "_law_due" 77 fL 751 534),
 (541,cx "_law_spoilt" 942 "_law_spoilt" 351 3 536 950 951),
 (542,bU "_law_spoilt" 78 fL 751 541),
 (548,cx "law" 953 "law" 361 1 543 968 969),
 (549,bU "law" 79 fL 751 548)]
def HB:List Addr:=[2,3,23,24,40,41,43,44,62,63,81,82,93,94,105,106,117,118,129,130,141,142,153,154,165,166,177,178,189,190,201,202,213,214,222,223,229,230,236,237,243,244,250,251,255,256,260,261,267,268,274,275,281,282,288,289,290,296,297,301,302,308,309,313,314,320,321,327,328,334,335,341,342,348,349,355,356,362,363,364,370,371,377,378,382,383,389,390,396,397,403,404,410,411,417,418,424,425,429,430,436,437,443,444,450,451,455,456,460,461,465,466,472,473,477,478,484,485,489,490,494,495,499,500,506,507,513,514,520,521,527,528,534,535,541,542,548,549]
theorem LO:∀P,HB=(kh P).map (·.1):=fun _=>by kernel_rfl
def kq:Program:=PySem.W.view PySem.Challenge.pw_leastdeeds_k11_what_is_refused_of_two_ro [1,2,3,4,5,6,7,8,9,10,11,12,13,14,15,17,19,20,21,22,23,24,25,26,27,28,29,30,31,32,33,34,35,36,37,38,39,40,41,42,44,45,46,47,48,49,50,51,52,54,56,57,58,59,60,61,62,63,64,65,66,67,68,69,70,71,72,73,74,75,76,77,78,79]
abbrev kH:PySem.W.Hook:=PySem.W.kHook kh HB LO
def qt:List Str:=["SORTS","NEW_WORDS"]
abbrev ya:=PySem.Challenge.rw_leastdeeds_k11_what_is_refused_of_two_ro.row
abbrev kX:Shared->Bool:=fun s=>PySem.W.xlAt kq [] s&&PySem.W.recOk (PySem.W.RowW.records ya.toRowW) s
noncomputable def kL (P:Params):List Obj:=[o1,
 {cls:=.none,data:=.fields #[.int 2 0,.int 0 0,.ref 20,.int 4 0,.int 0 0,.ref 33,.int 9 0,.int 0 0,.ref 52,.int 14 0,.int 0 0,.ref 71,.int 19 0,.int 0 0,.ref 90,.int 21 0,.int 0 0,.ref 102,.int 23 0,.int 0 0,.ref 114,.int 25 0,.int 0 0,.ref 126,.int 27 0,.int 0 0,.ref 138]},
 o2 "<module>" 182 1 11 185,
 o3 13 3 "__main__" 164,
 {cls:=.type "tuple",data:=.seq #[.type "ValueError"]},
 o4,
 o5 P 196 "DeedError" 2 22,
 o1,
 o6,
 o2 "DeedError" 191 2 18 194,
 o3 20 17 "leastdeeds.errors" 187,
 o1,
 o7 P 196 2 "__static_attributes__" 201 22 "__weakref__" 25 3,
 {cls:=.type "type",data:=.cls {name:="DeedError",bases:=[.type "ValueError"],mro:=[.ref 24,.type "ValueError",.type "Exception",.type "BaseException",.type "object"],ns:=23,qualname:="DeedError",subclasses:=[.ref 44,.ref 63,.ref 82,.ref 94,.ref 106,.ref 118,.ref 130,.ref 142]},slots:=#[some (.ref 15),none,some (.str "DeedError" 189),some (.str "DeedError" 197),some (.builtin "ValueError.__new__"),some (.bool true)]},
 {cls:=.type "getset_descriptor",data:=.fields #[.str "__weakref__" 202,.ref 24,.builtin "ExceptionGroup.__weakref__",.none]},
 o8 24,
 o9 24,
 lu,
 o4,
 GI P 214 "NoRow" 4 41,
 o1,
 GH 6 40,
 o2 "NoRow" 209 4 31 212,
 o3 33 30 "leastdeeds.errors" 187,
 o1,
 o6,
 wu "self" 222 "place",
 o1,
 GG "NoRow.__init__" 2,
 cx "__init__" 219 "NoRow.__init__" 6 2 35 224 225,
 CK "NoRow.__init__" 2 40,
 zH "place" 227,
 o7 P 214 4 "__init__" 226 41 "__static_attributes__" 42 2,
 e9 "NoRow" 44 43 28 207,
 o8 44,
 o9 44,
 lu,
 o4,
 GI P 239 "NoRule" 9 60,
 o1,
 GH 11 59,
 o2 "NoRule" 234 9 50 237,
 o3 52 49 "leastdeeds.errors" 187,
 o1,
 o6,
 wu "self" 247 "number",
 o1,
 GG "NoRule.__init__" 3,
 cx "__init__" 244 "NoRule.__init__" 11 2 54 249 250,
 CK "NoRule.__init__" 3 59,
 zH "number" 252,
 o7 P 239 9 "__init__" 251 60 "__static_attributes__" 61 2,
 e9 "NoRule" 63 62 47 232,
 o8 63,
 o9 63,
 lu,
 o4,
 GI P 264 "NoStep" 14 79,
 o1,
 GH 16 78,
 o2 "NoStep" 259 14 69 262,
 o3 71 68 "leastdeeds.errors" 187,
 o1,
 o6,
 wu "self" 272 "place",
 o1,
 GG "NoStep.__init__" 4,
 cx "__init__" 269 "NoStep.__init__" 16 2 73 274 275,
 CK "NoStep.__init__" 4 78,
 zH "place" 277,
 o7 P 264 14 "__init__" 276 79 "__static_attributes__" 80 2,
 e9 "NoStep" 82 81 66 257,
 o8 82,
 o9 82,
 lu,
 o4,
 o5 P 289 "NoMachine" 19 92,
 o1,
 o6,
 o2 "NoMachine" 284 19 88 287,
 o3 90 87 "leastdeeds.errors" 187,
 o1,
 gQ P 289 19 92,
 e9 "NoMachine" 94 93 85 282,
 o8 94,
 o9 94,
 lu,
 o4,
 o5 P 305 "TooLong" 21 104,
 o1,
 o6,
 o2 "TooLong" 300 21 100 303,
 o3 102 99 "leastdeeds.errors" 187,
 o1,
 gQ P 305 21 104,
 e9 "TooLong" 106 105 97 298,
 o8 106,
 o9 106,
 lu,
 o4,
 o5 P 321 "NoWord" 23 116,
 o1,
 o6,
 o2 "NoWord" 316 23 112 319,
 o3 114 111 "leastdeeds.errors" 187,
 o1,
 gQ P 321 23 116,
 e9 "NoWord" 118 117 109 314,
 o8 118,
 o9 118,
 lu,
 o4,
 o5 P 337 "NoWork" 25 128,
 o1,
 o6,
 o2 "NoWork" 332 25 124 335,
 o3 126 123 "leastdeeds.errors" 187,
 o1,
 gQ P 337 25 128,
 e9 "NoWork" 130 129 121 330,
 o8 130,
 o9 130,
 lu,
 o4,
 o5 P 353 "NoBound" 27 140,
 o1,
 o6,
 o2 "NoBound" 348 27 136 351,
 o3 138 135 "leastdeeds.errors" 187,
 o1,
 gQ P 353 27 140,
 e9 "NoBound" 142 141 133 346,
 o8 142,
 o9 142]
noncomputable def kL2 (P:Params):List Obj:=(((kL P).set 1 ({cls:=.none,data:=.fields #[.int 2 0,.int 0 0,.ref 20,.int 4 0,.int 0 0,.ref 33,.int 9 0,.int 0 0,.ref 52,.int 14 0,.int 0 0,.ref 71,.int 19 0,.int 0 0,.ref 90,.int 21 0,.int 0 0,.ref 102,.int 23 0,.int 0 0,.ref 114,.int 25 0,.int 0 0,.ref 126,.int 27 0,.int 0 0,.ref 138,.int 29 0,.int 0 0,.ref 150,.int 31 0,.int 0 0,.ref 162,.int 33 0,.int 0 0,.ref 174,.int 35 0,.int 0 0,.ref 186,.int 37 0,.int 0 0,.ref 198,.int 39 0,.int 0 0,.ref 210,.int 42 0,.int 0 0,.ref 222,.int 53 0,.int 0 0,.ref 229,.int 55 0,.int 0 0,.ref 236,.int 57 0,.int 0 0,.ref 243,.int 59 0,.int 0 0,.ref 250,.int 61 0,.int 0 0,.ref 255,.int 63 0,.int 0 0,.ref 260,.int 65 0,.int 0 0,.ref 267,.int 70 0,.int 0 0,.ref 274,.int 77 0,.int 0 0,.ref 281,.int 82 0,.int 0 0,.ref 288,.int 88 0,.int 0 0,.ref 296,.int 96 0,.int 0 0,.ref 301,.int 105 0,.int 0 0,.ref 308,.int 108 0,.int 0 0,.ref 313]})).set 13 (Kj))++[lu,
 o4,
 o5 P 369 "TooMany" 29 152,
 o1,
 o6,
 o2 "TooMany" 364 29 148 367,
 o3 150 147 "leastdeeds.errors" 187,
 o1,
 gQ P 369 29 152,
 e9 "TooMany" 154 153 145 362,
 o8 154,
 o9 154,
 lu,
 o4,
 o5 P 385 "NoPlace" 31 164,
 o1,
 o6,
 o2 "NoPlace" 380 31 160 383,
 o3 162 159 "leastdeeds.errors" 187,
 o1,
 gQ P 385 31 164,
 e9 "NoPlace" 166 165 157 378,
 o8 166,
 o9 166,
 lu,
 o4,
 o5 P 401 "NoDeed" 33 176,
 o1,
 o6,
 o2 "NoDeed" 396 33 172 399,
 o3 174 171 "leastdeeds.errors" 187,
 o1,
 gQ P 401 33 176,
 e9 "NoDeed" 178 177 169 394,
 o8 178,
 o9 178,
 lu,
 o4,
 o5 P 417 "Nothing" 35 188,
 o1,
 o6,
 o2 "Nothing" 412 35 184 415,
 o3 186 183 "leastdeeds.errors" 187,
 o1,
 gQ P 417 35 188,
 e9 "Nothing" 190 189 181 410,
 o8 190,
 o9 190,
 lu,
 o4,
 o5 P 433 "NoText" 37 200,
 o1,
 o6,
 o2 "NoText" 428 37 196 431,
 o3 198 195 "leastdeeds.errors" 187,
 o1,
 gQ P 433 37 200,
 e9 "NoText" 202 201 193 426,
 o8 202,
 o9 202,
 lu,
 o4,
 o5 P 449 "NoLine" 39 212,
 o1,
 o6,
 o2 "NoLine" 444 39 208 447,
 o3 210 207 "leastdeeds.errors" 187,
 o1,
 gQ P 449 39 212,
 e9 "NoLine" 214 213 205 442,
 o8 214,
 o9 214,
 o1,
 o6,
 {cls:=.type "tuple",data:=.seq #[.str "thing" 463,.str "low" 464,.str "high" 465]},
 o1,
 kT "is_between" 17,
 cx "is_between" 460 "is_between" 42 3 217 466 467,
 bU "is_between" 17 "leastdeeds.wholes" 458 222,
 o1,
 o6,
 wu "words" 486 "thing",
 o1,
 kT "is_word" 25,
 cx "is_word" 483 "is_word" 53 2 224 488 489,
 bU "is_word" 25 "leastdeeds.machines" 469 229,
 o1,
 o6,
 wu "places" 494 "thing",
 o1,
 kT "is_place" 26,
 cx "is_place" 491 "is_place" 55 2 231 496 497,
 bU "is_place" 26 "leastdeeds.machines" 469 236,
 o1,
 o6,
 zH "thing" 502,
 o1,
 kT "is_cost" 27,
 cx "is_cost" 499 "is_cost" 57 1 238 503 504,
 bU "is_cost" 27 "leastdeeds.machines" 469 243,
 o1,
 o6,
 wu "long" 509 "thing",
 o1,
 kT "is_tuple_of" 28,
 cx "is_tuple_of" 506 "is_tuple_of" 59 2 245 511 512,
 bU "is_tuple_of" 28 "leastdeeds.machines" 469 250,
 o1,
 o6,
 kT "is_table" 29,
 jL "is_table" 514 61 2 252 517,
 bU "is_table" 29 "leastdeeds.machines" 469 255,
 o1,
 o6,
 kT "is_double_table" 30,
 jL "is_double_table" 520 63 2 257 523,
 bU "is_double_table" 30 "leastdeeds.machines" 469 260,
 o1,
 o6,
 GF 529 "table",
 o1,
 kT "is_turn" 31,
 cx "is_turn" 526 "is_turn" 65 3 262 535 536,
 bU "is_turn" 31 "leastdeeds.machines" 469 267,
 o1,
 o6,
 {cls:=.type "tuple",data:=.seq #[.str "words" 541,.str "places" 542,.str "parts" 543,.str "at" 544,.str "other" 545,.str "table" 546,.str "price" 547]},
 o1,
 kT "is_join" 32,
 cx "is_join" 538 "is_join" 70 3 269 548 549,
 bU "is_join" 32 "leastdeeds.machines" 469 274,
 o1,
 o6,
 GF 554 "other",
 o1,
 kT "is_move" 33,
 cx "is_move" 551 "is_move" 77 3 276 560 561,
 bU "is_move" 33 "leastdeeds.machines" 469 281,
 o1,
 o6,
 GF 566 "word",
 o1,
 kT "is_put" 34,
 cx "is_put" 563 "is_put" 82 3 283 572 573,
 bU "is_put" 34 "leastdeeds.machines" 469 288,
 GD P 575 268,
 o1,
 o6,
 {cls:=.type "tuple",data:=.seq #[.str "words" 587,.str "places" 588,.str "thing" 589,.str "sort" 590,.str "is_sort" 591]},
 o1,
 kT "is_deed" 36,
 cx "is_deed" 584 "is_deed" 88 3 291 592 593,
 bU "is_deed" 36 "leastdeeds.machines" 469 296,
 o1,
 o6,
 kT "is_machine" 37,
 jL "is_machine" 595 96 1 298 598,
 bU "is_machine" 37 "leastdeeds.machines" 469 301,
 o1,
 o6,
 zH "thing" 604,
 o1,
 kT "need_machine" 38,
 cx "need_machine" 601 "need_machine" 105 1 303 605 606,
 bU "need_machine" 38 "leastdeeds.machines" 469 308,
 o1,
 o6,
 kT "beginnings" 39,
 jL "beginnings" 608 108 1 310 611,
 bU "beginnings" 39 "leastdeeds.machines" 469 313]
def kM (P:Params)(os:OsState):PySem.W.SharedT:=⟨HD.treeOf ((((PySem.W.boot_heap P).objs.toList.set 3 ({cls:=.type "dict",data:=.dict #[eN P "__name__" 165 (.str "leastdeeds.errors" 187),eN P "__doc__" 166 (.none),eN P "__package__" 167 (.none),eN P "__loader__" 168 (.builtin "__main__.__loader__#opaque"),eN P "__spec__" 169 (.none),eN P "__annotations__" 170 (.ref 6),eN P "__builtins__" 171 (.ref 4),eN P "__file__" 173 (.str "/claim/cut.py" 172),eN P "__cached__" 174 (.none),eN P "DeedError" 206 (.ref 24),eN P "NoRow" 231 (.ref 44),eN P "NoRule" 256 (.ref 63),eN P "NoStep" 281 (.ref 82),eN P "NoMachine" 297 (.ref 94),eN P "TooLong" 313 (.ref 106),eN P "NoWord" 329 (.ref 118),eN P "NoWork" 345 (.ref 130),eN P "NoBound" 361 (.ref 142)] 18})))++kL P) 0 .nil,145,{},#[],{},362,os⟩
noncomputable def CQ (P:Params)(os:OsState):PySem.W.SharedT:=⟨HD.treeOf ((((PySem.W.boot_heap P).objs.toList.set 3 ({cls:=.type "dict",data:=.dict #[eN P "__name__" 165 (.str "leastdeeds.machines" 469),eN P "__doc__" 166 (.none),eN P "__package__" 167 (.none),eN P "__loader__" 168 (.builtin "__main__.__loader__#opaque"),eN P "__spec__" 169 (.none),eN P "__annotations__" 170 (.ref 6),eN P "__builtins__" 171 (.ref 4),eN P "__file__" 173 (.str "/claim/cut.py" 172),eN P "__cached__" 174 (.none),eN P "DeedError" 206 (.ref 24),eN P "NoRow" 231 (.ref 44),eN P "NoRule" 256 (.ref 63),eN P "NoStep" 281 (.ref 82),eN P "NoMachine" 297 (.ref 94),eN P "TooLong" 313 (.ref 106),eN P "NoWord" 329 (.ref 118),eN P "NoWork" 345 (.ref 130),eN P "NoBound" 361 (.ref 142),eN P "TooMany" 377 (.ref 154),eN P "NoPlace" 393 (.ref 166),eN P "NoDeed" 409 (.ref 178),eN P "Nothing" 425 (.ref 190),eN P "NoText" 441 (.ref 202),eN P "NoLine" 457 (.ref 214),eN P "is_between" 468 (.ref 223),eN P "LEAST_WORDS" 472 (.int 2 471),eN P "MOST_WORDS" 474 (.int 4 473),eN P "MOST_PLACES" 476 (.int 2 475),eN P "MOST_DEEDS" 478 (.int 6 477),eN P "MOST_COST" 480 (.int 3 479),eN P "LONGEST_ROW" 482 (.int 40 481),eN P "is_word" 490 (.ref 230),eN P "is_place" 498 (.ref 237),eN P "is_cost" 505 (.ref 244),eN P "is_tuple_of" 513 (.ref 251),eN P "is_table" 519 (.ref 256),eN P "is_double_table" 525 (.ref 261),eN P "is_turn" 537 (.ref 268),eN P "is_join" 550 (.ref 275),eN P "is_move" 562 (.ref 282),eN P "is_put" 574 (.ref 289),eN P "SORTS" 583 (.ref 290),eN P "is_deed" 594 (.ref 297),eN P "is_machine" 600 (.ref 302),eN P "need_machine" 607 (.ref 309),eN P "beginnings" 613 (.ref 314)] 46})))++kL2 P) 0 .nil,315,{},#[],{},614,os⟩
def kE:Env:={scope:=PySem.Challenge.pw_leastdeeds_k11_what_is_refused_of_two_ro.main.scope,locals:=mainNs,globals:=mainNs,cells:=[],code:=.ref 13,frame:=some 14}
def kP (w:World)(os:OsState):=HD.wG treeTable PySem.Challenge.pw_leastdeeds_k11_what_is_refused_of_two_ro w 11 (some (.ref 6)) 12 (HD.yp w.params os) (PySem.W.topStub PySem.Challenge.pw_leastdeeds_k11_what_is_refused_of_two_ro)
def kU (w:World)(os:OsState):=(kP w os).bind fun x=>HD.nv treeTable PySem.Challenge.pw_leastdeeds_k11_what_is_refused_of_two_ro w 11 (some (.ref 6)) 1996 x.1 (PySem.W.piecesOf ((PySem.W.behindTheImports PySem.Challenge.pw_leastdeeds_k11_what_is_refused_of_two_ro).take 10) kE (.body (PySem.W.behindTheImports PySem.Challenge.pw_leastdeeds_k11_what_is_refused_of_two_ro) kE) ⟨0,0,0,0⟩ [PySem.W.topFrame ⟨0,0,0,0⟩])
def kV (w:World)(os:OsState):Option (Flow×PySem.W.SharedT×Code×Pos):=some (.next,kM w.params os,(.body (PySem.W.behindTheImports PySem.Challenge.pw_leastdeeds_k11_what_is_refused_of_two_ro) kE),⟨27,0,28,8⟩)
def CP (w:World)(os:OsState):=HD.nv treeTable PySem.Challenge.pw_leastdeeds_k11_what_is_refused_of_two_ro w 11 (some (.ref 6)) 1878 (kM w.params os) (PySem.W.piecesOf (((PySem.W.behindTheImports PySem.Challenge.pw_leastdeeds_k11_what_is_refused_of_two_ro).drop 10).take 30) kE (.body (PySem.W.behindTheImports PySem.Challenge.pw_leastdeeds_k11_what_is_refused_of_two_ro) kE) ⟨27,0,28,8⟩ [PySem.W.topFrame ⟨0,0,0,0⟩])
def CO (w:World)(os:OsState):Option (Flow×PySem.W.SharedT×Code×Pos):=some (.next,CQ w.params os,(.body (PySem.W.behindTheImports PySem.Challenge.pw_leastdeeds_k11_what_is_refused_of_two_ro) kE),⟨108,0,114,17⟩)
def kR (w:World)(os:OsState):=(HD.lT treeTable PySem.Challenge.pw_leastdeeds_k11_what_is_refused_of_two_ro w 11 (some (.ref 6)) 6417 (CQ w.params os) (PySem.W.restOf (((PySem.W.behindTheImports PySem.Challenge.pw_leastdeeds_k11_what_is_refused_of_two_ro).drop 10).drop 30) kE (.body (PySem.W.behindTheImports PySem.Challenge.pw_leastdeeds_k11_what_is_refused_of_two_ro) kE) ⟨108,0,114,17⟩ [PySem.W.topFrame ⟨0,0,0,0⟩])).map fun s=>HD.xS PySem.Challenge.pw_leastdeeds_k11_what_is_refused_of_two_ro kq qt kX true (PySem.W.boot_heap w.params) (fun s=>HB.map s.heap.get?) s.abs
def kG (w:World):=some (true,PySem.W.openGood kq qt,(kh w.params).map fun p=>some p.2)
def _root_.PySem.W.Fast.tw5312458915128421161:Program:=PySem.Challenge.pw_leastdeeds_k11_what_is_refused_of_two_ro
theorem _root_.PySem.W.Fast.te5312458915128421161:PySem.Challenge.pw_leastdeeds_k11_what_is_refused_of_two_ro=PySem.W.Fast.tw5312458915128421161:=rfl
def _root_.PySem.W.Fast.tw18129797926976313001:Params->PySem.W.Frag:=K11.kh
theorem _root_.PySem.W.Fast.te18129797926976313001:K11.kh=PySem.W.Fast.tw18129797926976313001:=rfl
def _root_.PySem.W.Fast.tw355794354962243267:Params->OsState->PySem.W.SharedT:=K11.kM
theorem _root_.PySem.W.Fast.te355794354962243267:K11.kM=PySem.W.Fast.tw355794354962243267:=rfl
def _root_.PySem.W.Fast.tw16606597046228515835:Params->OsState->PySem.W.SharedT:=K11.CQ
theorem _root_.PySem.W.Fast.te16606597046228515835:K11.CQ=PySem.W.Fast.tw16606597046228515835:=rfl
theorem kRs:kR=kR:=rfl
name_quick kq11 for kR by kRs
theorem kGs:kG=kG:=rfl
name_quick kg11 for kG by kGs
theorem kUs:kU=kU:=rfl
name_quick ku11 for kU by kUs
theorem kVs:kV=kV:=rfl
name_quick kv11 for kV by kVs
theorem LQ:CP=CP:=rfl
name_quick kuu11 for CP by LQ
theorem LP:CO=CO:=rfl
name_quick kvv11 for CO by LP
theorem BW:∀(w:World) (os:OsState),PySem.W.Fast.ku11 (w.withFollow "special-get-raises" false) os=PySem.W.Fast.kv11 (w.withFollow "special-get-raises" false) os:=fun w os=>by kernel_rfl
theorem El:∀(w:World) (os:OsState),PySem.W.Fast.ku11 (w.withFollow "special-get-raises" true) os=PySem.W.Fast.kv11 (w.withFollow "special-get-raises" true) os:=fun w os=>by kernel_rfl
theorem ka:∀(w:World) (os:OsState),kU w os=kV w os:=fun w os=>by
 rw [PySem.W.Fast.ku11_eq,PySem.W.Fast.kv11_eq]
 exact PySem.W.byRow2 "special-get-raises" (P:=fun w=>PySem.W.Fast.ku11 w os=PySem.W.Fast.kv11 w os) (fun w=>BW w os) (fun w=>El w os) w
theorem BV:∀(w:World) (os:OsState),PySem.W.Fast.kuu11 (w.withFollow "special-get-raises" false) os=PySem.W.Fast.kvv11 (w.withFollow "special-get-raises" false) os:=fun w os=>by kernel_rfl
theorem Ek:∀(w:World) (os:OsState),PySem.W.Fast.kuu11 (w.withFollow "special-get-raises" true) os=PySem.W.Fast.kvv11 (w.withFollow "special-get-raises" true) os:=fun w os=>by kernel_rfl
theorem kb:∀(w:World) (os:OsState),CP w os=CO w os:=fun w os=>by
 rw [PySem.W.Fast.kuu11_eq,PySem.W.Fast.kvv11_eq]
 exact PySem.W.byRow2 "special-get-raises" (P:=fun w=>PySem.W.Fast.kuu11 w os=PySem.W.Fast.kvv11 w os) (fun w=>BV w os) (fun w=>Ek w os) w
theorem BU:∀(w:World) (os:OsState),PySem.W.Fast.kq11 (w.withFollow "special-get-raises" false) os=PySem.W.Fast.kg11 (w.withFollow "special-get-raises" false):=fun w os=>by kernel_rfl
theorem Ej:∀(w:World) (os:OsState),PySem.W.Fast.kq11 (w.withFollow "special-get-raises" true) os=PySem.W.Fast.kg11 (w.withFollow "special-get-raises" true):=fun w os=>by kernel_rfl
theorem kl:∀(w:World) (os:OsState),kR w os=kG w:=fun w os=>by
 rw [PySem.W.Fast.kq11_eq,PySem.W.Fast.kg11_eq]
 exact PySem.W.byRow2 "special-get-raises" (P:=fun w=>PySem.W.Fast.kq11 w os=PySem.W.Fast.kg11 w) (fun w=>BU w os) (fun w=>Ej w os) w
theorem kp:∀(w:World) (os:OsState),(kP w os).map (·.2)=some ⟨denote treeTable (.body (PySem.W.behindTheImports PySem.Challenge.pw_leastdeeds_k11_what_is_refused_of_two_ro) kE),(.body (PySem.W.behindTheImports PySem.Challenge.pw_leastdeeds_k11_what_is_refused_of_two_ro) kE),⟨0,0,0,0⟩,[PySem.W.topFrame ⟨0,0,0,0⟩]⟩:=fun w os=>by kernel_rfl
theorem Jy:PySem.W.LeftO ya.prog kq qt kX kH.obs kH.val 10304:=HD.vQ (m0:=11) (ann:=some (.ref 6)) (PySem.W.boot_open (by rfl) (by decide) (fun _=>rfl)) (fun w=>by kernel_rfl) fun w os=>HD.Cf (J:=10) (J2:=30) (kp w os) (by kernel_rfl) (ka w os) (kb w os) (kl w os)
end K11
namespace L2
open PySem PySem.Spec PyProof.Rows
abbrev Key:=Sum Int Str
def tW:Key->Value->Bool
 |.inl k,v=>Value.isInt k v
 |.inr x,v=>Value.isStrOf x v
def LN (w:World):Key->Int
 |.inl k=>hashInt k
 |.inr x=>hashStr w x
theorem dC:∀{k:Key}{v:Value},tW k v=true->(∃i t,k=Sum.inl i/\v=Value.int i t)\/(∃x t,k=Sum.inr x/\v=Value.str x t)
 | .inl i, v, h => by
   obtain ⟨t,e⟩:=Value.isInt_shape (k:=i) (v:=v) h
   exact .inl ⟨i,t,rfl,e⟩
 | .inr x, v, h => by
   obtain ⟨t,e⟩:=Value.isStrOf_shape (x:=x) (v:=v) h
   exact .inr ⟨x,t,rfl,e⟩
theorem lB (x:Str)(t:Tok):tW (.inr x) (.str x t)=true:=by simp [tW,Value.isStrOf]
theorem HA (a b:Int):decide ((Sum.inl a:Key)=Sum.inl b)=(a==b):=by
 by_cases e:a=b
 ·subst e;simp
 ·have h:¬ (Sum.inl a:Key)=Sum.inl b:=fun q=>e (Sum.inl.inj q)
  rw [decide_eq_false h]
  exact (beq_eq_false_iff_ne.mpr e).symm
theorem Hx (a b:Str):decide ((Sum.inr a:Key)=Sum.inr b)=decide (a=b):=by
 by_cases e:a=b
 ·subst e;simp
 ·have h:¬ (Sum.inr a:Key)=Sum.inr b:=fun q=>e (Sum.inr.inj q)
  rw [decide_eq_false h,decide_eq_false e]
theorem Hz (a:Int)(b:Str):decide ((Sum.inl a:Key)=Sum.inr b)=false:=decide_eq_false (fun q=>nomatch q)
theorem Hy (a:Str)(b:Int):decide ((Sum.inr a:Key)=Sum.inl b)=false:=decide_eq_false (fun q=>nomatch q)
def lX (prog:Program)(w:World):PySem.KeyKind prog w Key where
 is:=tW
 hash:=LN w
 inj:=fun v a b ha hb=>by
  rcases dC ha with ⟨i,t,rfl,rfl⟩|⟨x,t,rfl,rfl⟩
  ·rcases dC hb with ⟨j,u,rfl,e⟩|⟨y,u,rfl,e⟩
   ·injection e with e1 _;rw [e1]
   ·exact nomatch e
  ·rcases dC hb with ⟨j,u,rfl,e⟩|⟨y,u,rfl,e⟩
   ·exact nomatch e
   ·injection e with e1 _;rw [e1]
 byValue:=fun k v h=>by
  rcases dC h with ⟨i,t,rfl,rfl⟩|⟨x,t,rfl,rfl⟩<;>rfl
 pyHash:=fun hv h=>by
  rcases dC hv with ⟨i,t,rfl,rfl⟩|⟨x,t,rfl,rfl⟩
  ·exact wpAny_pyHash_int h
  ·exact wpAny_pyHash_str h
 eqBool:=fun hu hv h=>by
  rcases dC hu with ⟨i,t,rfl,rfl⟩|⟨x,t,rfl,rfl⟩
  ·rcases dC hv with ⟨j,u,rfl,rfl⟩|⟨y,u,rfl,rfl⟩
   ·rw [HA] at h;exact wpAny_eqBool_int h
   ·rw [Hz] at h;exact SeqAt.EqAt.int_str i t y u _ _ _ _ h
  ·rcases dC hv with ⟨j,u,rfl,rfl⟩|⟨y,u,rfl,rfl⟩
   ·rw [Hy] at h;exact SeqAt.EqAt.str_int x t j u _ _ _ _ h
   ·rw [Hx] at h;exact wpAny_eqBool_str h
 «strs»:=fun k x t v h=>by
  rcases dC h with ⟨i,u,rfl,e⟩|⟨y,u,rfl,e⟩
  ·exact nomatch e
  ·injection e with e1 _
   subst e1
   cases v<;>rfl
end L2
namespace L2
open PySem PySem.Spec PyProof.Rows
inductive V where
 |non|bl (b:Bool)|int (i:Int)|str (x:Str)|byt (b:Array UInt8)|flt (b:UInt64)|ref (a:Addr)|ty (n:String)
 deriving DecidableEq
def RelV:V->Value->Prop
 |.non,u=>u=Value.none
 |.bl b,u=>u=Value.bool b
 |.int i,u=>∃t,u=Value.int i t
 |.str x,u=>∃t,u=Value.str x t
 |.byt b,u=>∃t,u=Value.bytes b t
 |.flt b,u=>∃t,u=Value.float b t
 |.ref a,u=>u=Value.ref a
 |.ty n,u=>u=Value.type n
abbrev Vals:List V->List Value->Prop:=Paired RelV
theorem Vals.length {xs:List V}{us:List Value}(r:Vals xs us):xs.length=us.length:=Paired.length r
theorem Vals.get:∀{xs:List V}{us:List Value}{i:Nat}{x:V},Vals xs us->xs[i]?=some x->∃u,us[i]?=some u/\RelV x u
 |_,_,_,_,.nil,e=>by simp at e
 |_,_,0,_,.cons r _,e=>by simp at e;subst e;exact ⟨_,rfl,r⟩
 | _, _, i + 1, x, .cons _ t, e => by
   obtain ⟨u,h1,h2⟩:=Vals.get (i:=i) (x:=x) t (by simpa using e)
   exact ⟨u,by simpa using h1,h2⟩
theorem Vals.set {x:V}{u:Value}(r:RelV x u):∀{xs:List V}{us:List Value} (i:Nat),Vals xs us->Vals (xs.set i x) (us.set i u)
 |_,_,_,.nil=>.nil
 |_,_,0,.cons _ t=>.cons r t
 |_,_,i+1,.cons q t=>.cons q (Vals.set r i t)
theorem Vals.append:∀{xs ys:List V}{us ws:List Value},Vals xs us->Vals ys ws->Vals (xs++ys) (us++ws)
 |_,_,_,_,.nil,s=>s
 |_,_,_,_,.cons r t,s=>.cons r (Vals.append t s)
theorem Vals.take:∀{xs:List V}{us:List Value} (n:Nat),Vals xs us->Vals (xs.take n) (us.take n)
 |_,_,0,_=>.nil
 |_,_,_+1,.nil=>.nil
 |_,_,n+1,.cons r t=>.cons r (Vals.take n t)
theorem Vals.drop:∀{xs:List V}{us:List Value} (n:Nat),Vals xs us->Vals (xs.drop n) (us.drop n)
 |_,_,0,r=>r
 |_,_,_+1,.nil=>.nil
 |_,_,n+1,.cons _ t=>Vals.drop n t
def sd:Option V->Option Value->Prop
 |some v,some u=>RelV v u
 |none,none=>True
 |_,_=>False
def KV {κ:Type}:List (κ×V)->List (κ×Value)->Prop:=Paired fun (p:κ×V) (q:κ×Value)=>p.1=q.1/\RelV p.2 q.2
def kV:Key->V
 |.inl i=>.int i
 |.inr x=>.str x
inductive HO where
 |lst (xs:List V)
 |tup (xs:List V)
 |dK (kvs:List (Key×V))|dT (kvs:List (List Key×V))
 |set (S:Int->Bool) (n:Nat)
 |ins (C dx:Addr) (fs:List (Str×V))
 |own (x:Addr)
 |xd (fs:List (Str×V))
 |met (f x:Addr)
 |rng (lo hi:Int)
 |frz (o:Obj) (u:HO)
 |tbl (ps:Array Value)
 |ext (φ:Heap->Prop)
abbrev Hp:=Addr->Option HO
def upd (H:Hp)(a:Addr)(o:HO):Hp:=fun b=>if b=a then some o else H b
theorem cb {H:Hp}{a:Addr}{o:HO}:upd H a o a=some o:=by unfold upd;rw [if_pos rfl]
theorem aP {H:Hp}{a b:Addr}{o:HO}(h:b≠a):upd H a o b=H b:=by unfold upd;rw [if_neg h]
theorem br {H:Hp}{a b:Addr}{o:HO}(h:H a=some o)(h':H b=none):a≠b:=by
 intro e;subst e;rw [h] at h';cases h'
section
variable (P:Program)(w:World)
def di (H:Hp)(h:Heap)(a:Addr):HO->Prop
 |.lst xs=>xs.length<=sizeLine/\∃(its:List Value) (n:Nat),Vals xs its/\h.get? a=some {cls:=.type "list",data:=.seq its.toArray n}
 |.tup xs=>xs.length<=sizeLine/\∃its:List Value,Vals xs its/\IsTup h a its.toArray
 |.dK kvs=>kvs.length<=sizeLine/\(a==sysModules)=false/\∃vs,KV kvs vs/\h.DictOf (lX P w) a vs
 |.dT kvs=>kvs.length<=sizeLine/\(a==sysModules)=false/\∃xs:List (List Key×Addr×Value),
  Paired (fun (p:List Key×V) (q:List Key×Addr×Value)=>p.1=q.1/\H q.2.1=some (.tup (p.1.map kV))/\RelV p.2 q.2.2) kvs xs/\
  ∃o es ep,h.get? a=some o/\o.ExactDict/\o.data=.dict es ep/\es.toList=xs.map (entryOfKey (tupleKind (lX P w)))/\(xs.map (·.1)).Nodup
 |.set S n=>h.SetOf (intKind P w) a S n
 |.ins C dx fs=>H dx=some (.own a)/\fs.length<=1000/\dx≠a/\h.get? a=some (PySem.W.instObj C dx)/\
  ∃mA,h.Ns1 dx mA/\(∀f,sd (fs.lookup f) (mA f))/\PySem.Within mA (fs.map (·.1))
 |.own _=>∃o,h.get? a=some o
 |.xd fs=>∃mA,h.Ns1 a mA/\∀f,sd (fs.lookup f) (mA f)
 |.rng lo hi=>∃t u v,h.get? a=some {cls:=.type "range",data:=.fields #[.int lo t,.int hi u,.int 1 v]}
 |.frz o u=>h.get? a=some o/\di H h a u
 |.tbl ps=>h.get? a=some {cls:=.none,data:=.fields ps}
 |.met f x=>h.get? a=some (PySem.W.methodObj (.ref f) (.ref x))
 |.ext φ=>φ h/\(∃o,h.get? a=some o)/\∀h1 h2:Heap,φ h1->(∀o,h1.get? a=some o->h2.get? a=some o)->φ h2
def fb (H:Hp)(h:Heap):Prop:=∀a o,H a=some o->di P w H h a o
end
section
variable {P:Program}{w:World}{H H':Hp}{h h':Heap}{a:Addr}{o:HO}
theorem di.lt (x:di P w H h a o):a<h.objs.size:=by
 cases o with
 |lst xs=>obtain ⟨_,_,_,_,e⟩:=x;exact tqd e
 |tup xs=>obtain ⟨_,_,_,p⟩:=x;exact p.lt
 |dK kvs=>obtain ⟨_,_,_,_,o,_,_,e,_⟩:=x;exact tqd e
 |dT kvs=>obtain ⟨_,_,_,_,o,_,_,e,_⟩:=x;exact tqd e
 |set S n=>obtain ⟨o,_,_,_,e,_⟩:=x;exact tqd e
 |ins C dx fs=>obtain ⟨_,_,_,e,_⟩:=x;exact tqd e
 |own y=>obtain ⟨_,e⟩:=x;exact tqd e
 |xd fs=>obtain ⟨_,⟨_,_,_,e,_⟩,_⟩:=x;exact tqd e
 |rng lo hi=>obtain ⟨_,_,_,e⟩:=x;exact tqd e
 |frz ob u=>obtain ⟨e,_⟩:=x;exact tqd e
 |tbl ps=>exact tqd (show h.get? a=some _ from x)
 |met f y=>exact tqd (show h.get? a=some _ from x)
 |ext φ=>obtain ⟨_,⟨_,e⟩,_⟩:=x;exact tqd e
theorem Paired.mapP {α β:Type}{F G:α->β->Prop}:∀{l₁:List α}{l₂:List β},Paired F l₁ l₂->(∀a b,F a b->G a b)->Paired G l₁ l₂
 |_,_,.nil,_=>.nil
 |_,_,.cons r t,f=>.cons (f _ _ r) (Paired.mapP t f)
theorem di.stay (x:di P w H h a o)(k:∀b u,(b=a\/H b=some (.own a))->h.get? b=some u->h'.get? b=some u)
 (ho:∀b,H b=some (.own a)->H' b=some (.own a)) (ht:∀b xs,H b=some (.tup xs)->H' b=some (.tup xs)):di P w H' h' a o:=by
 induction o with
 |lst xs=>obtain ⟨z,its,n,r,e⟩:=x;exact ⟨z,its,n,r,k _ _ (.inl rfl) e⟩
 |tup xs=>obtain ⟨z,its,r,ob,e,c⟩:=x;exact ⟨z,its,r,ob,k _ _ (.inl rfl) e,c⟩
 |dK kvs=>obtain ⟨z,y,vs,r,ob,es,ep,e,c⟩:=x;exact ⟨z,y,vs,r,ob,es,ep,k _ _ (.inl rfl) e,c⟩
 | dT kvs =>
   obtain ⟨z,y,xs,r,ob,es,ep,e,c⟩:=x
   exact ⟨z,y,xs,Paired.mapP r fun p q z=>⟨z.1,ht _ _ z.2.1,z.2.2⟩,ob,es,ep,k _ _ (.inl rfl) e,c⟩
 |set S n=>obtain ⟨ob,es,ep,t,e,c⟩:=x;exact ⟨ob,es,ep,t,k _ _ (.inl rfl) e,c⟩
 | ins C dx fs =>
   obtain ⟨d,z,ne,e,mA,⟨od,es,ep,e2,c⟩,r⟩:=x
   exact ⟨ho _ d,z,ne,k _ _ (.inl rfl) e,mA,⟨od,es,ep,k _ _ (.inr d) e2,c⟩,r⟩
 |own y=>obtain ⟨ob,e⟩:=x;exact ⟨ob,k _ _ (.inl rfl) e⟩
 |xd fs=>obtain ⟨mA,⟨od,es,ep,e,c⟩,r⟩:=x;exact ⟨mA,⟨od,es,ep,k _ _ (.inl rfl) e,c⟩,r⟩
 |rng lo hi=>obtain ⟨t,u,v,e⟩:=x;exact ⟨t,u,v,k _ _ (.inl rfl) e⟩
 |frz ob u ih=>obtain ⟨e,q⟩:=x;exact ⟨k _ _ (.inl rfl) e,ih q⟩
 | tbl ps =>
   have e:h.get? a=some {cls:=.none,data:=.fields ps}:=x
   show h'.get? a=some {cls:=.none,data:=.fields ps}
   exact k a _ (.inl rfl) e
 | met f y =>
   have e:h.get? a=some (PySem.W.methodObj (.ref f) (.ref y)):=x
   show h'.get? a=some (PySem.W.methodObj (.ref f) (.ref y))
   exact k a _ (.inl rfl) e
 |ext φ=>obtain ⟨p,⟨o,e⟩,st⟩:=x;exact ⟨st _ _ p fun o q=>k _ _ (.inl rfl) q,⟨o,k _ _ (.inl rfl) e⟩,st⟩
theorem fb.lt (x:fb P w H h)(e:H a=some o):a<h.objs.size:=(x a o e).lt
theorem fb.fresh (x:fb P w H h)(e:h.objs.size<=a):H a=none:=by
 cases q:H a with
 |none=>rfl
 |some u=>exact absurd (tqi (x.lt q) e) (tqn _)
theorem fb.kept (x:fb P w H h)(k:∀b u,h.get? b=some u->h'.get? b=some u):fb P w H h':=fun a o e=>
 (x a o e).stay (fun b u _ q=>k b u q) (fun _ q=>q) fun _ _ q=>q
theorem fb.laid (x:fb P w H h)(k:∀b u,h.get? b=some u->h'.get? b=some u)(hp:h.objs.size<=a)(new:di P w (upd H a o) h' a o):fb P w (upd H a o) h':=fun b u e=>by
 have hn:=x.fresh hp
 by_cases hb:b=a
 ·subst hb;rw [cb] at e;cases e;exact new
 ·rw [aP hb] at e
  exact (x b u e).stay (fun c v _ q=>k c v q) (fun c q=>by rw [aP (br q hn)];exact q) fun c xs q=>by rw [aP (br q hn)];exact q
end
def Rd (H:Hp)(a:Addr)(u:HO):Prop:=H a=some u\/∃o,H a=some (.frz o u)
theorem Rd.ok {P:Program}{w:World}{H:Hp}{h:Heap}{a:Addr}{u:HO}(r:Rd H a u)(x:fb P w H h):di P w H h a u:=by
 rcases r with r|⟨o,r⟩
 ·exact x a u r
 ·obtain ⟨_,q⟩:=x a _ r
  exact q
def C9:Option HO->Prop
 |some (.lst _)=>True
 |some (.dK _)=>True
 |some (.dT _)=>True
 |some (.set _ _)=>True
 |some (.ins _ _ _)=>True
 |some (.ext _)=>True
 |_=>False
section
variable {P:Program}{w:World}{H:Hp}{h h':Heap}{x e:Addr}{o':HO}
theorem fb.write (ok:fb P w H h)(mu:C9 (H x))(he:e=x\/H e=some (.own x))(k:∀b u,b≠e->h.get? b=some u->h'.get? b=some u)(heo:∃u,h'.get? e=some u)
 (new:di P w (upd H x o') h' x o'):fb P w (upd H x o') h':=fun b u q=>by
 have nown:∀c y,H c=some (.own y)->c≠x:=fun c y r z=>by subst z;rw [r] at mu;exact mu
 have ntup:∀c xs,H c=some (.tup xs)->c≠x:=fun c xs r z=>by subst z;rw [r] at mu;exact mu
 by_cases hb:b=x
 ·subst hb;rw [cb] at q;cases q;exact new
 ·rw [aP hb] at q
  by_cases hbe:b=e
  ·have q':H b=some (.own x):=by
    rcases he with z|z
    ·exact absurd (hbe.trans z) hb
    ·rw [hbe];exact z
   rw [q] at q';cases q'
   obtain ⟨v,hv⟩:=heo
   exact ⟨v,by rw [hbe];exact hv⟩
  ·refine (ok b u q).stay (fun c v hc r=>k c v ?_ r) (fun c r=>by rw [aP (nown c b r)];exact r) fun c xs r=>by rw [aP (ntup c xs r)];exact r
   rcases hc with rfl|hc
   ·exact hbe
   ·rintro rfl
    rcases he with z|z
    ·exact nown c b hc z
    ·rw [hc] at z;cases z;exact hb rfl
end
structure Un (fs ex:List Addr) (H H':Hp) (h h':Heap):Prop where
 keep:∀b o,h.get? b=some o->H b=none->b∉fs->b∉ex->h'.get? b=some o
 slot:∀b o,h.get? b=some o->H b=none->b∈fs->b∉ex->∃sl,h'.get? b=some {o with slots:=sl}
 free:∀b o,h.get? b=some o->H b=none->b∉ex->H' b=none
 there:∀b o,h.get? b=some o->b∉ex->∃o',h'.get? b=some o'
 tups:∀b xs,H b=some (.tup xs)->H' b=some (.tup xs)
 frzs:∀b o u,H b=some (.frz o u)->H' b=some (.frz o u)
 tbls:∀b ps,H b=some (.tbl ps)->∃more,H' b=some (.tbl (ps++more))
section
variable {fs fs' ex ex':List Addr}{H H1 H2:Hp}{h h1 h2 h':Heap}{a x e:Addr}{o:HO}
theorem Un.any (u:Un fs ex H H1 h h1){b:Addr}{ob:Obj}(q:h.get? b=some ob)(n:H b=none)(hx:b∉ex):∃sl,h1.get? b=some {ob with slots:=sl}:=by
 by_cases hb:b∈fs
 ·exact u.slot b ob q n hb hx
 ·exact ⟨ob.slots,u.keep b ob q n hb hx⟩
theorem Un.kept (k:∀b u,h.get? b=some u->h'.get? b=some u):Un fs ex H H h h':=
 ⟨fun b ob q _ _ _=>k b ob q,fun b ob q _ _ _=>⟨ob.slots,k b ob q⟩,fun _ _ _ n _=>n,fun b ob q _=>⟨ob,k b ob q⟩,fun _ _ q=>q,fun _ _ _ q=>q,fun _ ps q=>⟨#[],by rw [q];simp⟩⟩
theorem Un.refl:Un fs ex H H h h:=Un.kept fun _ _ q=>q
theorem Un.laid (k:∀b u,h.get? b=some u->h'.get? b=some u)(hp:h.objs.size<=a)(hn:H a=none):Un fs ex H (upd H a o) h h' where
 keep:=fun b u q _ _ _=>k b u q
 slot:=fun b u q _ _ _=>⟨u.slots,k b u q⟩
 free:=fun b u q n _=>by rw [aP (tqk (tqi (tqd q) hp))];exact n
 there:=fun b u q _=>⟨u,k b u q⟩
 tups:=fun b xs q=>by rw [aP (br q hn)];exact q
 frzs:=fun b u xs q=>by rw [aP (br q hn)];exact q
 tbls:=fun b ps q=>⟨#[],by rw [aP (br q hn),q];simp⟩
theorem Un.write (mu:C9 (H x))(he:e=x\/H e=some (.own x))(k:∀b u,b≠e->h.get? b=some u->h'.get? b=some u)(heo:∃u,h'.get? e=some u):Un fs ex H (upd H x o) h h':=by
 have hx:∀b,H b=none->b≠x:=fun b n z=>by subst z;rw [n] at mu;exact mu
 have hb:∀b,H b=none->b≠e:=fun b n z=>by
  subst z
  rcases he with r|r
  ·exact hx b n r
  ·rw [n] at r;cases r
 have hm:∀b u,H b=some u->¬ C9 (some u)->b≠x:=fun b u q nm z=>by subst z;rw [q] at mu;exact nm mu
 refine ⟨fun b u q n _ _=>k b u (hb b n) q,fun b u q n _ _=>⟨u.slots,k b u (hb b n) q⟩,fun b u q n _=>by rw [aP (hx b n)];exact n,fun b u q _=>?_,
  fun b xs q=>by rw [aP (hm b _ q fun z=>z)];exact q,fun b u xs q=>by rw [aP (hm b _ q fun z=>z)];exact q,fun b ps q=>⟨#[],by rw [aP (hm b _ q fun z=>z),q];simp⟩⟩
 by_cases hbe:b=e
 ·subst hbe;exact heo
 ·exact ⟨u,k b u hbe q⟩
end
def Ct (h:Heap)(H:Hp):List Addr:=(List.range h.objs.size).filter fun a=>(H a).isSome
def mI (h:Heap)(H:Hp):Heap:=PySem.W.hideAll h (Ct h H)
theorem zW (h:Heap)(H:Hp):(mI h H).objs.size=h.objs.size:=PySem.W.hideAll_size _ _
theorem B2 {h:Heap}{H:Hp}{b:Addr}{o:Obj}(e:h.get? b=some o)(n:H b=none):(mI h H).get? b=some o:=
 PySem.W.hideAll_get _ e fun hm=>by
  have q:(H b).isSome=true:=(List.mem_filter.mp hm).2
  rw [n] at q;simp at q
theorem Eb {h:Heap}{H:Hp}{b:Addr}{o:Obj}(e:(mI h H).get? b=some o):h.get? b=some o/\H b=none:=by
 have e':h.get? b=some o:=PySem.W.of_hideAll (Ct h H) e
 refine ⟨e',?_⟩
 cases q:H b with
 |none=>rfl
 | some x =>
   have hm:b∈Ct h H:=List.mem_filter.mpr ⟨List.mem_range.mpr (tqd e'),by simp [q]⟩
   have z:(mI h H).get? b=none:=PySem.W.hideAll_none (Ct h H) hm
   rw [z] at e;cases e
end L2
namespace L2
open PySem PySem.Spec PyProof.Rows
structure Mod (K:PySem.W.Frag) (mg:Str->Option Value) (base:Heap):Prop where
 kin:K.In base
 glob:base.Ns mainGlobals mg
 blt:∃mb,base.Ns builtinsNs mb/\∀x:Str,x≠"__name__"->mb x=bootBuiltins x
 nolimit:base.NoLimit
structure Cx where
 prog:Program
 w:World
 K:PySem.W.Frag
 mg:Str->Option Value
 base:Heap
 A:Around
 N:List Str
 s₀:Shared
 H₀:Hp
 env:Env
 outer:List Env
 stack:List Env
 ex:List Addr
 fn:Str->Bool
 calm:Bool
 pn:List (Addr×Obj)
 xe:Value->Shared->Prop
def gr (l:List Env):List Addr:=l.filterMap (·.frame)
abbrev Cx.fs (X:Cx):List Addr:=gr X.outer
def tu (sc:Scope)(x:Str):Prop:=sc.names.lookup x=some .local\/sc.names.lookup x=some .cell\/sc.names.lookup x=some .free
def Loc (sc:Scope)(x:Str):Prop:=sc.names.lookup x=some .local\/sc.names.lookup x=some .cell
def Look (env:Env)(h:Heap)(m:Str->Option Value)(x:Str)(u:Value):Prop:=
 (env.kindOf x=some .local/\m x=some u)\/((env.kindOf x=some .cell\/env.kindOf x=some .free)/\∃c,env.cells.lookup x=some c/\h.IsCell c (some u))
structure Cx.Ok (X:Cx):Prop where
 mod:Mod X.K X.mg X.base
 kind:X.env.scope.kind=.function
 glob:X.env.globals=mainGlobals
 blt:X.env.builtins=builtinsNs
 above:X.s₀.heap.objs.size<=X.env.locals
 inj:∀x y c,X.env.cells.lookup x=some c->X.env.cells.lookup y=some c->x=y
 has:∀x,(X.env.kindOf x=some .cell\/X.env.kindOf x=some .free)->∃c,X.env.cells.lookup x=some c
 cab:∀x c,X.fn x=true->X.env.cells.lookup x=some c->X.s₀.heap.objs.size<=c
 hd:X.calm=true->X.A.handled=none
 frames:X.A.frames=some X.stack
 stk:X.stack=X.outer\/(X.stack=X.env::X.outer/\X.env.frame=some X.env.locals)
 exf:∀b∈X.ex,b≠X.env.locals/\∀x c,X.env.cells.lookup x=some c->c≠b
 bs:∀b o,X.base.get? b=some o->X.s₀.heap.get? b=some o/\X.H₀ b=none
 bsz:X.base.objs.size<=X.s₀.heap.objs.size
 noex:∀b o,X.base.get? b=some o->b∉X.ex
 exfs:∀b∈X.ex,b∉X.fs
 funs:X.s₀.heap.FunFrames X.base X.outer
 frf:∀b∈X.fs,X.H₀ b=none
structure Inv (X:Cx) (pins:List (Addr×Obj)) (σ:List (Option V)) (H:Hp) (s:Shared):Prop where
 ok:X.Ok
 os:s.os=X.s₀.os
 bare:AllBare s.gens
 base:Un X.fs X.ex X.H₀ H X.s₀.heap s.heap
 loc:∃m,s.heap.Ns X.env.locals m/\∀(i:Nat) (x:Str) (v:V),X.N[i]?=some x->σ[i]?=some (some v)->tu X.env.scope x->∃u,RelV v u/\Look X.env s.heap m x u
 cell:∀x c,X.env.cells.lookup x=some c->∃v,s.heap.IsCell c v
 free:H X.env.locals=none
 freeC:∀x c,X.env.cells.lookup x=some c->H c=none
 pin:∀p∈X.pn++pins,s.heap.get? p.1=some p.2/\H p.1=none/\p.1≠X.env.locals/\p.1∉X.fs/\∀v,p.2.data≠.cell v
 hok:fb X.prog X.w H s.heap
 len:σ.length=X.N.length
section
variable {X:Cx}{pins:List (Addr×Obj)}{σ:List (Option V)}{H H':Hp}{s:Shared}{h':Heap}
theorem Cx.Ok.nofr (ok:X.Ok){b:Addr}{o:Obj}(e:X.base.get? b=some o):b∉X.fs:=fun hb=>by
 have:=(ok.funs.mem hb).1
 rw [e] at this;cases this
theorem Inv.bs (I:Inv X pins σ H s):∀b o,X.base.get? b=some o->s.heap.get? b=some o/\H b=none:=fun b o e=>
 ⟨I.base.keep b o (I.ok.bs b o e).1 (I.ok.bs b o e).2 (I.ok.nofr e) (I.ok.noex b o e),I.base.free b o (I.ok.bs b o e).1 (I.ok.bs b o e).2 (I.ok.noex b o e)⟩
theorem Inv.bk (I:Inv X pins σ H s):∀b o,X.base.get? b=some o->s.heap.get? b=some o:=fun b o e=>(I.bs b o e).1
theorem Inv.mod (I:Inv X pins σ H s):Mod X.K X.mg X.base:=I.ok.mod
theorem Inv.kIn (I:Inv X pins σ H s):X.K.In s.heap:=I.ok.mod.kin.keeps I.bk
theorem Inv.lt (I:Inv X pins σ H s):X.env.locals<s.heap.objs.size:=let ⟨_,hn,_⟩:=I.loc;hn.lt
theorem Inv.sz (I:Inv X pins σ H s):X.s₀.heap.objs.size<=s.heap.objs.size:=tqh I.ok.above (Nat.le_of_lt I.lt)
theorem Inv.nofs (I:Inv X pins σ H s){a:Addr}(h:s.heap.objs.size<=a):a∉X.fs:=fun hb=>by
 obtain ⟨_,o,ho,_⟩:=I.ok.funs.mem hb
 exact absurd (tqi (tqd ho) (tqh I.sz h)) (tqn _)
theorem Inv.cne (I:Inv X pins σ H s):∀x c,X.env.cells.lookup x=some c->c≠X.env.locals:=fun x c e z=>by
 obtain ⟨v,o,ho,hd⟩:=I.cell x c e
 obtain ⟨m,⟨o',es,ep,ho',hd',_⟩,_⟩:=I.loc
 rw [z,ho'] at ho;cases ho;rw [hd'] at hd;cases hd
theorem Inv.funs (I:Inv X pins σ H s):s.heap.FunFrames X.base X.outer:=by
 have all:∀(l:List Env),(∀b∈gr l,b∈X.fs)->X.s₀.heap.FunFrames X.base l->s.heap.FunFrames X.base l:=by
  intro l
  induction l with
  |nil=>intro _ _;trivial
  | cons env r ih =>
    intro hs hl
    obtain ⟨hk,⟨L,o,hf,hn,ho,hd⟩,hr⟩:=hl
    have hL:L∈X.fs:=hs L (by unfold gr;rw [List.filterMap_cons,hf];exact List.mem_cons_self)
    obtain ⟨sl,e⟩:=I.base.slot L o ho (I.ok.frf L hL) hL fun z=>I.ok.exfs L z hL
    exact ⟨hk,⟨L,_,hf,hn,e,hd⟩,ih (fun b hb=>hs b (by unfold gr;rw [List.filterMap_cons,hf];exact List.mem_cons_of_mem _ hb)) hr⟩
 exact all X.outer (fun _ hb=>hb) I.ok.funs
theorem Inv.stack (I:Inv X pins σ H s):s.heap.FunFrames X.base X.stack:=by
 rcases I.ok.stk with e|⟨e,hf⟩
 ·rw [e];exact I.funs
 ·rw [e]
  obtain ⟨m,hn,_⟩:=I.loc
  refine .cons (by rw [I.ok.kind];decide) hf hn ?_ I.funs
  exact Heap.get?_none_of_le (tqh I.ok.bsz I.ok.above)
theorem Inv.stkSub (I:Inv X pins σ H s):∀b∈gr X.stack,b∈X.env.locals::X.fs:=fun b hb=>by
 rcases I.ok.stk with e|⟨e,hf⟩
 ·rw [e] at hb;exact List.mem_cons_of_mem _ hb
 ·rw [e] at hb
  unfold gr at hb
  rw [List.filterMap_cons,hf] at hb
  exact hb
theorem Inv.stkFree (I:Inv X pins σ H s):∀b∈gr X.stack,H b=none:=fun b hb=>by
 rcases List.mem_cons.mp (I.stkSub b hb) with e|hb
 ·rw [e];exact I.free
 ·obtain ⟨_,o,ho,_⟩:=I.ok.funs.mem hb
  exact I.base.free b o ho (I.ok.frf b hb) fun z=>I.ok.exfs b z hb
theorem Inv.step {g':Array GenState}{t':Nat}{d':Drawn}{ch:List Addr}(I:Inv X pins σ H s)
 (hch:∀b∈ch,(b∈X.ex\/X.s₀.heap.objs.size<=b)/\b≠X.env.locals/\(∀x c,X.env.cells.lookup x=some c->c≠b)/\∀p∈X.pn++pins,p.1≠b)
 (keep:∀b o,b≠X.env.locals->b∉X.fs->b∉ch->s.heap.get? b=some o->H b=none->h'.get? b=some o)
 (slot:∀b o,b≠X.env.locals->b∈X.fs->b∉ch->s.heap.get? b=some o->H b=none->∃sl,h'.get? b=some {o with slots:=sl}) (free:∀b o,b∉ch->s.heap.get? b=some o->H b=none->H' b=none)
 (there:∀b o,b∉ch->s.heap.get? b=some o->∃o',h'.get? b=some o')
 (tups:∀b xs,H b=some (.tup xs)->H' b=some (.tup xs)) (frzs:∀b o u,H b=some (.frz o u)->H' b=some (.frz o u)) (tbls:∀b ps,H b=some (.tbl ps)->∃more,H' b=some (.tbl (ps++more)))
 (ns:∀m,s.heap.Ns X.env.locals m->h'.Ns X.env.locals m) (hok:fb X.prog X.w H' h') (hg:AllBare g') :
 Inv X pins σ H' {s with heap:=h',gens:=g',drawn:=d',toks:=t'}:=by
 have neL:∀b o,X.s₀.heap.get? b=some o->b≠X.env.locals:=fun b o e=>tqk (tqi (tqd e) I.ok.above)
 have neC:∀b o,X.s₀.heap.get? b=some o->b∉X.ex->b∉ch:=fun b o e hx hb=>by
  rcases (hch b hb).1 with z|z
  ·exact hx z
  ·exact absurd (tqi (tqd e) z) (tqn _)
 have cellK:∀x c,X.env.cells.lookup x=some c->∀v,s.heap.IsCell c v->h'.IsCell c v:=fun x c e v ⟨o,ho,hd⟩=>by
  have nch:c∉ch:=fun z=>(hch c z).2.2.1 x c e rfl
  by_cases hc:c∈X.fs
  ·obtain ⟨sl,q⟩:=slot c o (I.cne x c e) hc nch ho (I.freeC x c e)
   exact ⟨_,q,hd⟩
  ·exact ⟨o,keep c o (I.cne x c e) hc nch ho (I.freeC x c e),hd⟩
 refine ⟨I.ok,I.os,hg,⟨fun b o e n hb hx=>?_,fun b o e n hb hx=>?_,fun b o e n hx=>?_,fun b o e hx=>?_,fun b xs e=>tups b xs (I.base.tups b xs e),fun b o xs e=>frzs b o xs (I.base.frzs b o xs e),fun b ps e=>?_⟩,?_,fun x c e=>?_,?_,fun x c e=>?_,fun p hp=>?_,hok,I.len⟩
 ·exact keep b o (neL b o e) hb (neC b o e hx) (I.base.keep b o e n hb hx) (I.base.free b o e n hx)
 ·obtain ⟨sl,e1⟩:=I.base.slot b o e n hb hx
  obtain ⟨sl',e2⟩:=slot b _ (neL b o e) hb (neC b o e hx) e1 (I.base.free b o e n hx)
  exact ⟨sl',e2⟩
 ·obtain ⟨o',e1⟩:=I.base.there b o e hx
  exact free b o' (neC b o e hx) e1 (I.base.free b o e n hx)
 ·obtain ⟨o',e1⟩:=I.base.there b o e hx
  exact there b o' (neC b o e hx) e1
 ·obtain ⟨m1,e1⟩:=I.base.tbls b ps e
  obtain ⟨m2,e2⟩:=tbls b _ e1
  exact ⟨m1++m2,by rw [e2,Array.append_assoc]⟩
 ·obtain ⟨m,hn,hl⟩:=I.loc
  refine ⟨m,ns m hn,fun i x v e1 e2 e3=>?_⟩
  obtain ⟨u,r,l⟩:=hl i x v e1 e2 e3
  refine ⟨u,r,?_⟩
  rcases l with l|⟨k,c,e,z⟩
  ·exact .inl l
  ·exact .inr ⟨k,c,e,cellK x c e _ z⟩
 ·obtain ⟨v,z⟩:=I.cell x c e
  exact ⟨v,cellK x c e v z⟩
 ·obtain ⟨m,⟨o,_,_,ho,_⟩,_⟩:=I.loc
  exact free _ o (fun z=>(hch _ z).2.1 rfl) ho I.free
 ·obtain ⟨v,o,ho,hd⟩:=I.cell x c e
  exact free c o (fun z=>(hch c z).2.2.1 x c e rfl) ho (I.freeC x c e)
 ·obtain ⟨e,n,ne,nf,d⟩:=I.pin p hp
  have nch:p.1∉ch:=fun z=>(hch p.1 z).2.2.2 p hp rfl
  exact ⟨keep p.1 p.2 ne nf nch e n,free p.1 p.2 nch e n,ne,nf,d⟩
theorem Inv.un {t':Nat}(I:Inv X pins σ H s)(u:Un X.fs [] H H' s.heap h')(hok:fb X.prog X.w H' h'):Inv X pins σ H' {s with heap:=h',toks:=t'}:=by
 obtain ⟨m,⟨o,es,ep,ho,r⟩,_⟩:=id I.loc
 obtain ⟨sl,hL⟩:=u.any ho I.free (by simp)
 exact I.step (g':=s.gens) (d':=s.drawn) (ch:=[]) (fun _ z=>nomatch z) (fun b o _ hb _ e n=>u.keep b o e n hb (by simp)) (fun b o _ hb _ e n=>u.slot b o e n hb (by simp)) (fun b o _ e n=>u.free b o e n (by simp)) (fun b o _ e=>u.there b o e (by simp)) u.tups u.frzs u.tbls (fun m' hm=>by
  obtain ⟨o',es',ep',ho',r'⟩:=hm
  rw [ho] at ho';cases ho'
  exact ⟨_,es',ep',hL,r'⟩) hok I.bare
theorem Inv.call {g':Array GenState}{t':Nat}{d':Drawn}{ch:List Addr}(I:Inv X pins σ H s)(u:Un (gr X.stack) ch H H' s.heap h')(hok:fb X.prog X.w H' h')(hg:AllBare g')
 (hch:∀b∈ch,(b∈X.ex\/X.s₀.heap.objs.size<=b)/\b≠X.env.locals/\(∀x c,X.env.cells.lookup x=some c->c≠b)/\∀p∈X.pn++pins,p.1≠b) :
 Inv X pins σ H' {s with heap:=h',gens:=g',drawn:=d',toks:=t'}:=by
 obtain ⟨m,⟨o,es,ep,ho,r⟩,_⟩:=id I.loc
 obtain ⟨sl,hL⟩:=u.any ho I.free fun z=>(hch _ z).2.1 rfl
 exact I.step (ch:=ch) hch (fun b o hL hb hc e n=>u.keep b o e n (fun z=>(List.mem_cons.mp (I.stkSub b z)).elim hL hb) hc) (fun b o _ _ hc e n=>u.any e n hc) (fun b o hc e n=>u.free b o e n hc) (fun b o hc e=>u.there b o e hc) u.tups u.frzs u.tbls (fun m' hm=>by
  obtain ⟨o',es',ep',ho',r'⟩:=hm
  rw [ho] at ho';cases ho'
  exact ⟨_,es',ep',hL,r'⟩) hok hg
theorem Inv.turned {t':Nat}{it:Addr}(I:Inv X pins σ H s)(k:∀b o,b≠it->s.heap.get? b=some o->h'.get? b=some o)(hn:H it=none)(hL:it≠X.env.locals)
 (h1:it∈X.ex\/X.s₀.heap.objs.size<=it) (h2:∀x c,X.env.cells.lookup x=some c->c≠it) (h3:∀p∈X.pn++pins,p.1≠it):Inv X pins σ H {s with heap:=h',toks:=t'}:=by
 have nit:∀b u,H b=some u->b≠it:=fun b u e z=>by rw [z,hn] at e;cases e
 refine I.step (g':=s.gens) (d':=s.drawn) (ch:=[it]) (fun b hb=>?_) (fun b o _ _ hc e _=>k b o (fun z=>hc (by simp [z])) e) (fun b o _ _ hc e _=>⟨o.slots,k b o (fun z=>hc (by simp [z])) e⟩) (fun _ _ _ _ n=>n)
  (fun b o hc e=>⟨o,k b o (fun z=>hc (by simp [z])) e⟩) (fun _ _ e=>e) (fun _ _ _ e=>e) (fun b ps e=>⟨#[],by rw [e];simp⟩) (fun m hm=>?_) (fun b u e=>?_) I.bare
 ·have e:b=it:=by simpa using hb
  subst e
  exact ⟨h1,hL,h2,h3⟩
 ·obtain ⟨o,es,ep,ho,r⟩:=hm
  exact ⟨o,es,ep,k _ o (Ne.symm hL) ho,r⟩
 ·refine (I.hok b u e).stay (fun c v hc q=>k c v ?_ q) (fun _ q=>q) fun _ _ q=>q
  rcases hc with z|z
  ·rw [z];exact nit b u e
  ·exact nit c _ z
theorem Inv.tok (I:Inv X pins σ H s)(t:Nat):Inv X pins σ H {s with toks:=t}:=I.un (h':=s.heap) (t':=t) Un.refl I.hok
theorem Inv.kept {t':Nat}(I:Inv X pins σ H s)(k:∀b u,s.heap.get? b=some u->h'.get? b=some u):Inv X pins σ H {s with heap:=h',toks:=t'}:=I.un (Un.kept k) (I.hok.kept k)
theorem Inv.laid {a:Addr}{o:HO}{t':Nat}(I:Inv X pins σ H s)(k:∀b u,s.heap.get? b=some u->h'.get? b=some u)(hp:s.heap.objs.size<=a)(new:di X.prog X.w (upd H a o) h' a o) :
 Inv X pins σ (upd H a o) {s with heap:=h',toks:=t'}:=I.un (Un.laid k hp (I.hok.fresh hp)) (I.hok.laid k hp new)
theorem Inv.write {x e:Addr}{o:HO}{t':Nat}(I:Inv X pins σ H s)(mu:C9 (H x))(he:e=x\/H e=some (.own x))(k:∀b u,b≠e->s.heap.get? b=some u->h'.get? b=some u)(heo:∃u,h'.get? e=some u)
 (new:di X.prog X.w (upd H x o) h' x o):Inv X pins σ (upd H x o) {s with heap:=h',toks:=t'}:=I.un (Un.write mu he k heo) (I.hok.write mu he k heo new)
theorem Inv.pins_of {pins':List (Addr×Obj)}(I:Inv X pins σ H s)(h:∀p∈pins',s.heap.get? p.1=some p.2/\H p.1=none/\p.1≠X.env.locals/\p.1∉X.fs/\∀v,p.2.data≠.cell v):Inv X pins' σ H s:=
 ⟨I.ok,I.os,I.bare,I.base,I.loc,I.cell,I.free,I.freeC,fun p hp=>(List.mem_append.mp hp).elim (fun z=>I.pin p (List.mem_append_left _ z)) (h p),I.hok,I.len⟩
theorem pG {N:List Str}(hN:N.Nodup){i j:Nat}{x:Str}(a:N[i]?=some x)(b:N[j]?=some x):i=j:=by
 obtain ⟨h1,e1⟩:=List.getElem?_eq_some_iff.mp a
 obtain ⟨h2,e2⟩:=List.getElem?_eq_some_iff.mp b
 exact (List.getElem_inj hN).mp (e1.trans e2.symm)
theorem sr {M:Model}{A:Around}{E:Value->Shared->Prop}{i:Nat}{x:Str}{v:V}{u:Value}{Q:Unit->Shared->Prop}(I:Inv X pins σ H s)(hN:X.N.Nodup)(hi:X.N[i]?=some x)(hx:Loc X.env.scope x)(r:RelV v u)
 (h:∀s',Inv X pins (σ.set i (some v)) H s'->(∃a,Heap.SameBut a s.heap s'.heap/\(a=X.env.locals\/X.env.cells.lookup x=some a))->Q () s') (hf:X.fn x=true\/X.env.scope.names.lookup x=some .local:=by first|exact .inl rfl|exact .inr rfl|assumption):wpAny M A (storeName X.env x u) Q E s:=by
 obtain ⟨m,hn,hl⟩:=id I.loc
 have hcls:(X.env.scope.kind==.class||(X.env.scope.kind==.module&&X.env.locals != X.env.globals))=false:=by rw [I.ok.kind];rfl
 have hiσ:i<σ.length:=by rw [I.len];exact (List.getElem?_eq_some_iff.mp hi).1
 have cne:=I.cne
 have tracked:∀{a:Addr}{h':Heap},(∃o,s.heap.get? a=some o/\H a=none)->Heap.SameBut a s.heap h'->fb X.prog X.w H h':=fun {a h'} ha hs b ob e=>by
  obtain ⟨_,_,hfree⟩:=ha
  refine (I.hok b ob e).stay (fun c w' hc q=>(hs.2 c ?_).trans q) (fun _ q=>q) fun _ _ q=>q
  rintro rfl
  rcases hc with rfl|hc
  ·rw [hfree] at e;cases e
  ·rw [hfree] at hc;cases hc
 rcases hx with hk|hk
 ·refine wpAny_storeName_local hk hn (fun h' hn' hs=>?_) hcls
  obtain ⟨oL,_,_,hoL,_⟩:=id hn
  refine h _ ⟨I.ok,I.os,I.bare,⟨fun b o e n hb hx=>?_,fun b o e n hb hx=>?_,I.base.free,fun b o e hx=>?_,I.base.tups,I.base.frzs,I.base.tbls⟩,⟨_,hn',fun j y v' e1 e2 e3=>?_⟩,fun y c e=>?_,I.free,I.freeC,fun p hp=>?_,tracked ⟨oL,hoL,I.free⟩ hs,by simpa using I.len⟩ ⟨_,hs,.inl rfl⟩
  ·exact (hs.2 b (tqk (tqi (tqd e) I.ok.above))).trans (I.base.keep b o e n hb hx)
  ·obtain ⟨sl,e1⟩:=I.base.slot b o e n hb hx
   exact ⟨sl,(hs.2 b (tqk (tqi (tqd e) I.ok.above))).trans e1⟩
  ·obtain ⟨o',e1⟩:=I.base.there b o e hx
   exact ⟨o',(hs.2 b (tqk (tqi (tqd e) I.ok.above))).trans e1⟩
  ·by_cases hj:j=i
   ·subst hj
    rw [hi] at e1;cases e1
    rw [List.getElem?_set_self hiσ] at e2
    cases e2
    exact ⟨u,r,.inl ⟨hk,by simp⟩⟩
   ·rw [List.getElem?_set_ne (Ne.symm hj)] at e2
    obtain ⟨u',r',q⟩:=hl j y v' e1 e2 e3
    refine ⟨u',r',?_⟩
    rcases q with ⟨k,e⟩|⟨k,c,e,z⟩
    ·refine .inl ⟨k,?_⟩
     have:y≠x:=fun e=>hj (pG hN e1 (e ▸ hi))
     simp [this,e]
    ·exact .inr ⟨k,c,e,z.sameBut hs (cne y c e)⟩
  ·obtain ⟨w',z⟩:=I.cell y c e
   exact ⟨w',z.sameBut hs (cne y c e)⟩
  ·obtain ⟨e,n,ne,nf,d⟩:=I.pin p hp
   exact ⟨(hs.2 p.1 ne).trans e,n,ne,nf,d⟩
 ·have hfn:X.fn x=true:=by
   rcases hf with z|z
   ·exact z
   ·rw [z] at hk;cases hk
  obtain ⟨c,hc⟩:=I.ok.has x (.inl hk)
  obtain ⟨w',z⟩:=I.cell x c hc
  refine wpAny_storeName_cell I.ok.kind hk hc z (fun h' hc' hs=>?_)
  obtain ⟨oc,hoc,hocd⟩:=id z
  refine h {s with heap:=h'} ⟨I.ok,I.os,I.bare,⟨fun b o e n hb hx=>?_,fun b o e n hb hx=>?_,I.base.free,fun b o e hx=>?_,I.base.tups,I.base.frzs,I.base.tbls⟩,⟨m,hn.sameBut hs (Ne.symm (cne x c hc)),fun j y v' e1 e2 e3=>?_⟩,fun y c' e=>?_,I.free,I.freeC,fun p hp=>?_,tracked ⟨oc,hoc,I.freeC x c hc⟩ hs,by simpa using I.len⟩ ⟨c,hs,.inr hc⟩
  ·exact (hs.2 b (tqk (tqi (tqd e) (I.ok.cab x c hfn hc)))).trans (I.base.keep b o e n hb hx)
  ·obtain ⟨sl,e1⟩:=I.base.slot b o e n hb hx
   exact ⟨sl,(hs.2 b (tqk (tqi (tqd e) (I.ok.cab x c hfn hc)))).trans e1⟩
  ·obtain ⟨o',e1⟩:=I.base.there b o e hx
   exact ⟨o',(hs.2 b (tqk (tqi (tqd e) (I.ok.cab x c hfn hc)))).trans e1⟩
  ·by_cases hj:j=i
   ·subst hj
    rw [hi] at e1;cases e1
    rw [List.getElem?_set_self hiσ] at e2
    cases e2
    exact ⟨u,r,.inr ⟨.inl hk,c,hc,hc'⟩⟩
   ·rw [List.getElem?_set_ne (Ne.symm hj)] at e2
    obtain ⟨u',r',q⟩:=hl j y v' e1 e2 e3
    refine ⟨u',r',?_⟩
    rcases q with q|⟨k,c',e,z'⟩
    ·exact .inl q
    ·refine .inr ⟨k,c',e,z'.sameBut hs ?_⟩
     rintro rfl
     exact hj (pG hN e1 (I.ok.inj _ _ _ e hc ▸ hi))
  ·by_cases hcc:c'=c
   ·subst hcc;exact ⟨_,hc'⟩
   ·obtain ⟨w2,z2⟩:=I.cell y c' e
    exact ⟨w2,z2.sameBut hs hcc⟩
  ·obtain ⟨e,n,ne,nf,d⟩:=I.pin p hp
   refine ⟨(hs.2 p.1 ?_).trans e,n,ne,nf,d⟩
   intro q
   rw [q,hoc] at e
   have q':oc=p.2:=Option.some.inj e
   exact d w' (by rw [<- q'];exact hocd)
theorem uw {M:Model}{A:Around}{E:Value->Shared->Prop}{i:Nat}{x:Str}{v:V}{u:Value}{Q:Unit->Shared->Prop}(I:Inv X pins σ H s)(hN:X.N.Nodup)(hi:X.N[i]?=some x)(hx:Loc X.env.scope x)(r:RelV v u)
 (h:∀s',Inv X pins (σ.set i (some v)) H s'->Q () s') (hf:X.fn x=true\/X.env.scope.names.lookup x=some .local:=by first|exact .inl rfl|exact .inr rfl|assumption):wpAny M A (storeName X.env x u) Q E s:=
 sr I hN hi hx r (fun s' I' _=>h s' I') hf
theorem Inv.call' {s':Shared}{ch:List Addr}(I:Inv X pins σ H s)(ho:s'.os=s.os)(u:Un (gr X.stack) ch H H' s.heap s'.heap)(hok:fb X.prog X.w H' s'.heap)(hg:AllBare s'.gens)
 (hch:∀b∈ch,(b∈X.ex\/X.s₀.heap.objs.size<=b)/\b≠X.env.locals/\(∀x c,X.env.cells.lookup x=some c->c≠b)/\∀p∈X.pn++pins,p.1≠b):Inv X pins σ H' s':=by
 obtain ⟨h',g',d',t',o'⟩:=s'
 have e:o'=s.os:=ho
 subst e
 exact I.call (g':=g') (t':=t') (d':=d') u hok hg hch
end
abbrev XK:=Value->Option Addr->Hp->Prop
abbrev St:=List (Option V)
abbrev VK:=V->Hp->Prop
abbrev TE:=St->Hp->VK->Prop
abbrev TT:=St->Hp->(Bool->Hp->Prop)->Prop
abbrev TA:=St->Hp->(List V->Hp->Prop)->Prop
structure Ends where
 nx:St->Hp->Prop
 rt:VK
 bk:St->Hp->Prop:=fun _ _=>False
 ct:St->Hp->Prop:=fun _ _=>False
abbrev TS:=Ends->St->Hp->Prop
def EP (X:Cx)(pins:List (Addr×Obj))(σ:St)(Q:VK)(u:Value)(s':Shared):Prop:=∃v H',Inv X pins σ H' s'/\RelV v u/\Q v H'
def TP (X:Cx)(pins:List (Addr×Obj))(σ:St)(Q:Bool->Hp->Prop)(b:Bool)(s':Shared):Prop:=∃H',Inv X pins σ H' s'/\Q b H'
def AP (X:Cx)(pins:List (Addr×Obj))(σ:St)(Q:List V->Hp->Prop)(us:List Value)(s':Shared):Prop:=∃vs H',Inv X pins σ H' s'/\Vals vs us/\Q vs H'
def SP (X:Cx)(pins:List (Addr×Obj))(D:Ends)(f:Flow)(s':Shared):Prop:=
 match f with
 |.next=>∃σ' H',Inv X pins σ' H' s'/\D.nx σ' H'
 |.brk=>∃σ' H',Inv X pins σ' H' s'/\D.bk σ' H'
 |.cont=>∃σ' H',Inv X pins σ' H' s'/\D.ct σ' H'
 |.ret u=>∃v σ' H',Inv X pins σ' H' s'/\RelV v u/\D.rt v H'
def PE (X:Cx)(e:Expr)(t:TE):Prop:=
 ∀(pins:List (Addr×Obj)) (s:Shared) (σ:St) (H:Hp) (Q:VK),Inv X pins σ H s->t σ H Q->wpAny (model X.prog X.w) X.A (eval e X.env) (EP X pins σ Q) X.xe s
def PT (X:Cx)(e:Expr)(t:TT):Prop:=
 ∀(pins:List (Addr×Obj)) (s:Shared) (σ:St) (H:Hp) (Q:Bool->Hp->Prop),Inv X pins σ H s->t σ H Q->wpAny (model X.prog X.w) X.A (isTrue e X.env (eval e X.env)) (TP X pins σ Q) X.xe s
def PW (X:Cx)(e:Expr)(t:TT):Prop:=
 ∀(whole:Sem Value) (pins:List (Addr×Obj)) (s:Shared) (σ:St) (H:Hp) (Q:Bool->Hp->Prop),Inv X pins σ H s->t σ H Q->wpAny (model X.prog X.w) X.A (isTrue e X.env whole) (TP X pins σ Q) X.xe s
theorem PW.pt {X:Cx}{e:Expr}{t:TT}(h:PW X e t):PT X e t:=h _
def PA (X:Cx)(es:List Expr)(t:TA):Prop:=
 ∀(pos:Pos) (pins:List (Addr×Obj)) (s:Shared) (σ:St) (H:Hp) (Q:List V->Hp->Prop),Inv X pins σ H s->t σ H Q->wpAny (model X.prog X.w) X.A (spliced (backTo pos (starEach es X.env))) (AP X pins σ Q) X.xe s
def PS (X:Cx)(st:Stmt)(t:TS):Prop:=
 ∀(pins:List (Addr×Obj)) (s:Shared) (σ:St) (H:Hp) (D:Ends),Inv X pins σ H s->t D σ H->wpAny (model X.prog X.w) X.A (exec st X.env) (SP X pins D) X.xe s
def n5 (X:Cx)(st:List Stmt)(t:TS):Prop:=
 ∀(pins:List (Addr×Obj)) (s:Shared) (σ:St) (H:Hp) (D:Ends),Inv X pins σ H s->t D σ H->wpAny (model X.prog X.w) X.A (execs st X.env) (SP X pins D) X.xe s
theorem bp {α:Type}{t:Sem α}{Q Q':α->Shared->Prop}{M:Model}{A:Around}{E:Value->Shared->Prop}{s:Shared}(h:wpAny M A t Q E s)(hQ:∀a s,Q a s->Q' a s):wpAny M A t Q' E s:=wpAny_mono h hQ fun _ _ x=>x
end L2
namespace L2
open PySem PySem.Spec PyProof.Rows
section
variable {X:Cx}
theorem bin {a b:Expr}{ta tb:TE}(ha:PE X a ta)(hb:PE X b tb){pins:List (Addr×Obj)}{s:Shared}{σ:St}{H:Hp}{R:V->V->Hp->Prop}(I:Inv X pins σ H s)(h:ta σ H fun x H1=>tb σ H1 fun y H2=>R x y H2)
 {α:Type}{Q:α->Shared->Prop}{f:Value->Value->Sem α}
 (hf:∀v u s2 x y H2,Inv X pins σ H2 s2->RelV x v->RelV y u->R x y H2->wpAny (model X.prog X.w) X.A (f v u) Q X.xe s2) :
 wpAny (model X.prog X.w) X.A (eval a X.env) (fun v s₁=>wpAny (model X.prog X.w) X.A (eval b X.env) (fun u s₂=>wpAny (model X.prog X.w) X.A (f v u) Q X.xe s₂) X.xe s₁) X.xe s:=by
 refine bp (ha pins s σ H _ I h) fun v s1 ⟨x,H1,I1,r1,q1⟩=>?_
 refine bp (hb pins s1 σ H1 _ I1 q1) fun u s2 ⟨y,H2,I2,r2,q2⟩=>?_
 exact hf v u s2 x y H2 I2 r1 r2 q2
def AU (i:Nat):TE:=fun σ H Q=>∃v,σ[i]?=some (some v)/\Q v H
def tC (v:V):TE:=fun _ H Q=>Q v H
theorem qh {i:Nat}{x:Str}{pos:Pos}(hN:X.N[i]?=some x)(hv:tu X.env.scope x)(hd:(x==("__debug__":Str))=false:=by decide)(hcd:(x==("__classdict__":Str))=false:=by decide):PE X (.Name x pos) (AU i):=by
 intro pins s σ H Q I h
 obtain ⟨v,e,h⟩:=h
 obtain ⟨m,hn,hl⟩:=I.loc
 obtain ⟨u,r,l⟩:=hl i x v hN e hv
 have fin:EP X pins σ Q u s:=⟨v,H,I,r,h⟩
 rcases l with ⟨hk,hm⟩|⟨hk,c,hc,hcell⟩
 ·exact wpAny_Name (wpAny_loadName_local I.ok.kind hk hn hm fin) hd
 ·rcases hk with hk|hk
  ·exact wpAny_Name (wpAny_loadName_cell I.ok.kind hk hc hcell fin) hd
  ·exact wpAny_Name (wpAny_loadName_free I.ok.kind hk hc hcell fin hcd) hd
theorem zm {i j pos}:PE X (.Constant (.int i) j pos) (tC (.int i)):=fun _ _ _ H _ I h=>wpAny_Constant_int ⟨.int i,H,I.tok _,⟨_,rfl⟩,h⟩
theorem xj {b j pos}:PE X (.Constant (.bool b) j pos) (tC (.bl b)):=fun _ _ _ H _ I h=>Constant_bool ⟨.bl b,H,I,rfl,h⟩
theorem Gi {j pos}:PE X (.Constant .none j pos) (tC .non):=fun _ _ _ H _ I h=>Constant_none ⟨.non,H,I,rfl,h⟩
theorem Ge {x j pos}:PE X (.Constant (.str x) j pos) (tC (.str x)):=fun _ _ _ H _ I h=>Calls.Constant_str ⟨.str x,H,I.tok _,⟨_,rfl⟩,h⟩
def Gl (X:Cx)(x:Str):Prop:=X.env.kindOf x=some .globalImplicit
theorem jq {E:Value->Shared->Prop}{pins:List (Addr×Obj)}{s:Shared}{σ:St}{H:Hp}{x:Str}{u:Value}{pos:Pos}{Q:Value->Shared->Prop}(I:Inv X pins σ H s)(hg:Gl X x)(hm:X.mg x=some u)(h:Q u s)
 (hd:(x==("__debug__":Str))=false:=by decide):wpAny (model X.prog X.w) X.A (eval (.Name x pos) X.env) Q E s:=
 Calls.Name_function_global I.ok.kind hg (Calls.loadGlobal_global (by rw [I.ok.glob];exact I.mod.glob.keeps I.bk) hm h) hd
theorem iN {E:Value->Shared->Prop}{pins:List (Addr×Obj)}{s:Shared}{σ:St}{H:Hp}{x:Str}{u:Value}{pos:Pos}{Q:Value->Shared->Prop}(I:Inv X pins σ H s)(hg:Gl X x)(hm:X.mg x=none)(hv:bootBuiltins x=some u)(h:Q u s)
 (hn:x≠"__name__":=by decide) (hd:(x==("__debug__":Str))=false:=by decide):wpAny (model X.prog X.w) X.A (eval (.Name x pos) X.env) Q E s:=by
 obtain ⟨mb,h1,h2⟩:=I.mod.blt
 exact Calls.Name_function_global I.ok.kind hg (Calls.loadGlobal_builtin (by rw [I.ok.glob];exact I.mod.glob.keeps I.bk) hm (by rw [I.ok.blt];exact h1.keeps I.bk) ((h2 x hn).trans hv) h) hd
theorem lU {x:Str}{v:V}{u:Value}{pos:Pos}(hg:Gl X x)(hm:X.mg x=some u)(r:RelV v u)(hd:(x==("__debug__":Str))=false:=by decide):PE X (.Name x pos) (tC v):=
 fun _ _ _ H _ I h=>jq I hg hm ⟨v,H,I,r,h⟩ hd
theorem wq {x:Str}{v:V}{u:Value}{pos:Pos}(hg:Gl X x)(hm:X.mg x=none)(hv:bootBuiltins x=some u)(r:RelV v u)(hn:x≠"__name__":=by decide)(hd:(x==("__debug__":Str))=false:=by decide):PE X (.Name x pos) (tC v):=
 fun _ _ _ H _ I h=>iN I hg hm hv ⟨v,H,I,r,h⟩ hn hd
variable {a b:Expr}{ta tb:TE}{pos:Pos}
variable {tA tB':TT}{rest:List Expr}
def je (t u:TT):TT:=fun σ H Q=>t σ H fun c H1=>if c=true then u σ H1 Q else Q false H1
def eK (t u:TT):TT:=fun σ H Q=>t σ H fun c H1=>if c=true then Q true H1 else u σ H1 Q
def bZ (t:TT):TT:=fun σ H Q=>t σ H fun c H1=>Q (!c) H1
theorem DP (ha:PT X a tA):PW X (.BoolOp .And [a] pos) tA:=by
 intro wh pins s σ H Q I h
 refine isTrue_and (bp (ha pins s σ H Q I h) fun c s1 e=>?_)
 cases c with
 |true=>exact isTrue_and_nil e
 |false=>exact e
theorem FT (ha:PT X a tA):PW X (.BoolOp .Or [a] pos) tA:=by
 intro wh pins s σ H Q I h
 refine isTrue_or (bp (ha pins s σ H Q I h) fun c s1 e=>?_)
 cases c with
 |false=>exact isTrue_or_nil e
 |true=>exact e
theorem FU (ha:PT X a tA)(hb:PW X (.BoolOp .And (b::rest) pos) tB'):PW X (.BoolOp .And (a::b::rest) pos) (je tA tB'):=by
 intro wh pins s σ H Q I h
 refine isTrue_and (bp (ha pins s σ H _ I h) fun c s1 ⟨H1,I1,q1⟩=>?_)
 cases c with
 |true=>exact hb wh pins s1 σ H1 Q I1 q1
 |false=>exact ⟨H1,I1,q1⟩
theorem Jh (ha:PT X a tA)(hb:PW X (.BoolOp .Or (b::rest) pos) tB'):PW X (.BoolOp .Or (a::b::rest) pos) (eK tA tB'):=by
 intro wh pins s σ H Q I h
 refine isTrue_or (bp (ha pins s σ H _ I h) fun c s1 ⟨H1,I1,q1⟩=>?_)
 cases c with
 |true=>exact ⟨H1,I1,q1⟩
 |false=>exact hb wh pins s1 σ H1 Q I1 q1
theorem FV (ha:PT X a tA):PT X (.UnaryOp .Not a pos) (bZ tA):=by
 intro pins s σ H Q I h
 exact isTrue_not (ha pins s σ H (fun c H1=>Q (!c) H1) I h)
def IY (ta tb:TE):TE:=fun σ H Q=>ta σ H fun x H1=>∃c,x=.bl c/\if c=true then tb σ H1 Q else Q (.bl false) H1
def IV (ta:TE):TE:=fun σ H Q=>ta σ H fun x H1=>∃c,x=.bl c/\Q (.bl (!c)) H1
theorem Gg {op}{t:TE}(h:PE X a t):PE X (.BoolOp op [a] pos) t:=fun pins s σ H Q I hw=>BoolOp_one (h pins s σ H Q I hw)
theorem Gm (ha:PE X a ta)(hb:PE X (.BoolOp .And (b::rest) pos) tb):PE X (.BoolOp .And (a::b::rest) pos) (IY ta tb):=by
 intro pins s σ H Q I h
 refine BoolOp_and (bp (ha pins s σ H _ I h) fun v s1 ⟨x,H1,I1,r1,q1⟩=>?_)
 obtain ⟨c,rfl,q1⟩:=q1
 cases r1
 refine tqp ?_
 cases c with
 |true=>exact hb pins s1 σ H1 Q I1 q1
 |false=>exact ⟨.bl false,H1,I1,rfl,q1⟩
theorem Gh (ha:PE X a ta):PE X (.UnaryOp .Not a pos) (IV ta):=by
 intro pins s σ H Q I h
 refine UnaryOp_ (bp (ha pins s σ H _ I h) fun v s1 ⟨x,H1,I1,r1,q1⟩=>?_)
 obtain ⟨c,rfl,q1⟩:=q1
 cases r1
 exact not_of (tqp ⟨.bl (!c),H1,I1,rfl,q1⟩)
def tIf (t:TT)(ta tb:TE):TE:=fun σ H Q=>t σ H fun c H1=>if c=true then ta σ H1 Q else tb σ H1 Q
theorem Bl {c:Expr}(hc:PT X c tA)(ha:PE X a ta)(hb:PE X b tb):PE X (.IfExp c a b pos) (tIf tA ta tb):=by
 intro pins s σ H Q I h
 refine wpAny_IfExp (bp (hc pins s σ H _ I h) fun d s1 ⟨H1,I1,q1⟩=>?_)
 cases d with
 |true=>exact ha pins s1 σ H1 Q I1 q1
 |false=>exact hb pins s1 σ H1 Q I1 q1
end
end L2
namespace L2
open PySem PySem.Spec PyProof.Rows
def dg (K:PySem.W.Frag)(H:Hp)(a:Addr)(xs:List V):Prop:=
 Rd H a (.lst xs)\/
  ∃(o:Obj) (its:Array Value) (n:Nat),K.lookup a=some o/\o.cls=.type "list"/\o.dict=none/\o.data=.seq its n/\its.size<=sizeLine/\Vals xs its.toList
def d8 (K:PySem.W.Frag)(H:Hp)(a:Addr)(xs:List V):Prop:=
 Rd H a (.tup xs)\/
  ∃(o:Obj) (its:Array Value) (n:Nat),K.lookup a=some o/\o.cls=.type "tuple"/\o.data=.seq its n/\its.size<=sizeLine/\Vals xs its.toList
def Mg:Value->Option V
 |.none=>some .non
 |.bool b=>some (.bl b)
 |.int i _=>some (.int i)
 |.str x _=>some (.str x)
 |.bytes b _=>some (.byt b)
 |.float b _=>some (.flt b)
 |.ref a=>some (.ref a)
 |.type n=>some (.ty n)
 |_=>none
theorem RelV.abs {x:V}{u:Value}(r:RelV x u):Mg u=some x:=by
 cases x with
 |non=>cases r;rfl
 |bl _=>cases r;rfl
 |int _=>obtain ⟨t,rfl⟩:=r;rfl
 |str _=>obtain ⟨t,rfl⟩:=r;rfl
 |byt _=>obtain ⟨t,rfl⟩:=r;rfl
 |flt _=>obtain ⟨t,rfl⟩:=r;rfl
 |ref _=>cases r;rfl
 |ty _=>cases r;rfl
theorem RelV.inj {x y:V}{u:Value}(r:RelV x u)(q:RelV y u):x=y:=Option.some.inj (r.abs.symm.trans q.abs)
theorem Vals.inj:∀{xs ys:List V}{us:List Value},Vals xs us->Vals ys us->xs=ys
 |_,_,_,.nil,.nil=>rfl
 |_,_,_,.cons r t,.cons r' t'=>by rw [r.inj r',Vals.inj t t']
section
variable {X:Cx}{pins:List (Addr×Obj)}{σ:St}{H:Hp}{s:Shared}{a:Addr}{xs ys:List V}
theorem dg.of {K:PySem.W.Frag}(h:H a=some (.lst xs)):dg K H a xs:=.inl (.inl h)
theorem d8.of {K:PySem.W.Frag}(h:H a=some (.tup xs)):d8 K H a xs:=.inl (.inl h)
theorem Inv.list (I:Inv X pins σ H s)(h:dg X.K H a xs):∃its:List Value,Vals xs its/\PlainL s.heap a its.toArray/\xs.length<=sizeLine:=by
 rcases h with h|⟨o,its,n,hk,hc,hd,hs,hz,r⟩
 ·obtain ⟨z,its,n,r,e⟩:=h.ok I.hok
  exact ⟨its,r,⟨_,n,e,rfl,rfl,rfl⟩,z⟩
 ·refine ⟨its.toList,r,⟨o,n,I.kIn a o hk,hc,hd,by simpa using hs⟩,?_⟩
  have e:=r.length
  simp only [Array.length_toList] at e
  omega
theorem Inv.tuple (I:Inv X pins σ H s)(h:d8 X.K H a xs):∃its:List Value,Vals xs its/\IsTup s.heap a its.toArray/\xs.length<=sizeLine:=by
 rcases h with h|⟨o,its,n,hk,hc,hs,hz,r⟩
 ·obtain ⟨z,its,r,p⟩:=h.ok I.hok
  exact ⟨its,r,p,z⟩
 ·refine ⟨its.toList,r,⟨o,I.kIn a o hk,hc,n,by simpa using hs⟩,?_⟩
  have e:=r.length
  simp only [Array.length_toList] at e
  omega
theorem Inv.list_inj (I:Inv X pins σ H s)(h:dg X.K H a xs)(h':dg X.K H a ys):xs=ys:=by
 obtain ⟨its,r,⟨o,n,e,_,_,d⟩,_⟩:=I.list h
 obtain ⟨its',r',⟨o',n',e',_,_,d'⟩,_⟩:=I.list h'
 rw [e] at e';cases e'
 rw [d] at d'
 injection d' with d1 _
 have:its=its':=by simpa using congrArg Array.toList d1
 subst this
 exact r.inj r'
theorem Inv.tuple_inj (I:Inv X pins σ H s)(h:d8 X.K H a xs)(h':d8 X.K H a ys):xs=ys:=by
 obtain ⟨its,r,⟨o,e,_,n,d⟩,_⟩:=I.tuple h
 obtain ⟨its',r',⟨o',e',_,n',d'⟩,_⟩:=I.tuple h'
 rw [e] at e';cases e'
 rw [d] at d'
 injection d' with d1 _
 have:its=its':=by simpa using congrArg Array.toList d1
 subst this
 exact r.inj r'
end
section
variable {X:Cx}{st:Stmt}{rest:List Stmt}{t u:TS}{e:Expr}{te:TE}{pos:Pos}
def Cw:TS:=fun D σ H=>D.nx σ H
def KN (t u:TS):TS:=fun D σ H=>t {D with nx:=u D} σ H
theorem wg:n5 X [] Cw:=fun _ _ σ H _ I h=>wpAny_execs_nil ⟨σ,H,I,h⟩
theorem pD (h1:PS X st t)(h2:n5 X rest u):n5 X (st::rest) (KN t u):=by
 intro pins s σ H D I h
 refine wpAny_execs_cons (bp (h1 pins s σ H {D with nx:=u D} I h) fun f s1 q=>?_)
 cases f with
 | next =>
   obtain ⟨σ',H',I',q⟩:=q
   exact h2 pins s1 σ' H' D I' q
 |ret v=>exact q
 |brk=>exact q
 |cont=>exact q
theorem DU:PS X (.Pass pos) Cw:=fun _ _ σ H _ I h=>wpAny_Pass ⟨σ,H,I,h⟩
theorem Inv.quiet {pins:List (Addr×Obj)}{σ:St}{H:Hp}{s:Shared}(I:Inv X pins σ H s):interactive X.env=false:=by simp [interactive,I.ok.kind]
def IW (te:TE):TS:=fun D σ H=>te σ H fun _ H1=>D.nx σ H1
theorem rf (he:PE X e te)(hs:swapsWith e none pos.line X.env=pure false:=by rfl):PS X (.Expr e pos) (IW te):=by
 intro pins s σ H D I h
 exact wpAny_Expr_any (bp (he pins s σ H _ I h) fun v s1 ⟨x,H1,I1,r1,q1⟩=>⟨σ,H1,I1,q1⟩) I.quiet hs
def KO (te:TE):TS:=fun D σ H=>te σ H D.rt
theorem FW (he:PE X e te):PS X (.Return (some e) pos) (KO te):=by
 intro pins s σ H D I h
 exact wpAny_Return_some (bp (he pins s σ H _ I h) fun v s1 ⟨x,H1,I1,r1,q1⟩=>⟨x,σ,H1,I1,r1,q1⟩)
def KS (c:TT)(t u:TS):TS:=fun D σ H=>c σ H fun b H1=>if b=true then t D σ H1 else u D σ H1
theorem Ji {c:Expr}{a b:List Stmt}{tc:TT}(hc:PT X c tc)(ha:n5 X a t)(hb:n5 X b u):PS X (.If c a b pos) (KS tc t u):=by
 intro pins s σ H D I h
 refine wpAny_If (bp (hc pins s σ H _ I h) fun d s1 ⟨H1,I1,q1⟩=>?_)
 cases d with
 |true=>exact ha pins s1 σ H1 D I1 q1
 |false=>exact hb pins s1 σ H1 D I1 q1
end
abbrev TG:=V->St->Hp->(St->Hp->Prop)->Prop
abbrev qN:=List V->St->Hp->(St->Hp->Prop)->Prop
def PG (X:Cx)(target:Expr)(t:TG):Prop:=
 ∀(pins:List (Addr×Obj)) (s:Shared) (σ:St) (H:Hp) (v:V) (u:Value) (Q:St->Hp->Prop),Inv X pins σ H s->RelV v u->t v σ H Q->
  wpAny (model X.prog X.w) X.A (assign target X.env u) (fun _ s'=>∃σ' H',Inv X pins σ' H' s'/\Q σ' H') X.xe s
def vF (X:Cx)(ts:List Expr)(t:qN):Prop:=
 ∀(pins:List (Addr×Obj)) (s:Shared) (σ:St) (H:Hp) (vs:List V) (us:List Value) (Q:St->Hp->Prop),Inv X pins σ H s->Vals vs us->t vs σ H Q->
  wpAny (model X.prog X.w) X.A (assignInOrder ((assignEach ts X.env).map (·.2)) us) (fun _ s'=>∃σ' H',Inv X pins σ' H' s'/\Q σ' H') X.xe s
abbrev Co:=V->V->V->Hp->(Hp->Prop)->Prop
def IB (X:Cx)(t:Co):Prop:=
 ∀(pins:List (Addr×Obj)) (s:Shared) (σ:St) (H:Hp) (o i v:V) (ov iv u:Value) (Q:Hp->Prop),Inv X pins σ H s->RelV o ov->RelV i iv->RelV v u->t o i v H Q->
  wpAny (model X.prog X.w) X.A (setItem ov iv u) (fun _ s'=>∃H',Inv X pins σ H' s'/\Q H') X.xe s
section
variable {X:Cx}{pos:Pos}
def JC (i:Nat):TG:=fun v σ H Q=>Q (σ.set i (some v)) H
theorem wo {i:Nat}{x:Str}(hN:X.N.Nodup)(hi:X.N[i]?=some x)(hx:Loc X.env.scope x)(hf:X.fn x=true\/X.env.scope.names.lookup x=some .local:=by first|exact .inl rfl|exact .inr rfl|assumption):PG X (.Name x pos) (JC i):=by
 intro pins s σ H v u Q I r h
 exact wpAny_assign_Name (uw I hN hi hx r (fun s' I'=>⟨_,H,I',h⟩) hf)
def au:qN:=fun vs σ H Q=>vs=[]/\Q σ H
def af (t:TG)(u:qN):qN:=fun vs σ H Q=>∃v r,vs=v::r/\t v σ H fun σ' H'=>u r σ' H' Q
theorem D2:vF X [] au:=by
 intro pins s σ H vs us Q I r h
 obtain ⟨e,h⟩:=h
 subst e
 cases r
 exact assignInOrder_nil ⟨σ,H,I,h⟩
theorem Bk {e:Expr}{es:List Expr}{t:TG}{u:qN}(h1:PG X e t)(h2:vF X es u)
 (hs:(assignEach (e::es) X.env).map (·.2)=assign e X.env::(assignEach es X.env).map (·.2):=by rfl):vF X (e::es) (af t u):=by
 intro pins s σ H vs us Q I r h
 obtain ⟨v,vr,e1,h⟩:=h
 subst e1
 cases r with
 | cons r rr =>
   rw [hs]
   refine assignInOrder_cons (bp (h1 pins s σ H _ _ _ I r h) fun _ s1 ⟨σ1,H1,I1,q1⟩=>?_)
   exact h2 pins s1 σ1 H1 _ _ Q I1 rr q1
def cU (K:PySem.W.Frag)(n:Nat)(t:qN):TG:=fun v σ H Q=>∃a xs,v=.ref a/\d8 K H a xs/\xs.length=n/\t xs σ H Q
theorem Ga {es:List Expr}{k:Nat}{t:qN}{n:Nat}(hc:X.calm=true)(h:vF X es t)
 (hn:(assignEach es X.env).length=n:=by rfl) (hst:(assignEach es X.env).findIdx? (·.1)=none:=by rfl):PG X (.Tuple es k pos) (cU X.K n t):=by
 intro pins s σ H v u Q I r hw
 obtain ⟨a,xs,e1,hq,hl,hw⟩:=hw
 subst e1
 cases r
 obtain ⟨its,rv,ht,hz⟩:=I.tuple hq
 refine assign_Tuple_tuple (I.ok.hd hc) ht (by simp [hn,<- hl,rv.length]) hst fun h' hx=>?_
 have I1:Inv X pins σ H {s with heap:=h'}:=I.kept (t':=s.toks) fun b o e=>hx b o (tqk (tqd e)) e
 exact h pins _ σ H xs _ Q I1 (by simpa using rv) hw
def LX (to ti:TE)(t:Co):TG:=fun v σ H Q=>to σ H fun o H1=>ti σ H1 fun i H2=>t o i v H2 fun H3=>Q σ H3
theorem Gb {o i:Expr}{to ti:TE}{t:Co}(ho:PE X o to)(hi:PE X i ti)(hs:IB X t)
 (ha:∀v,assign (.Subscript o i pos) X.env v=(do
  let ov <- holding [v] (eval o X.env)
  let iv <- holding [v,ov] (eval i X.env)
  standAt pos
  holding [v,ov,iv] (setItem ov iv v)
  release [v,ov,iv] []):=by intro _;rfl):PG X (.Subscript o i pos) (LX to ti t):=by
 intro pins s σ H v u Q I r h
 rw [ha]
 refine tqa (tqo (bp (ho pins s σ H _ I h) fun ov s1 ⟨x,H1,I1,r1,q1⟩=>?_))
 refine tqa (tqo (bp (hi pins s1 σ H1 _ I1 q1) fun iv s2 ⟨y,H2,I2,r2,q2⟩=>?_))
 refine tqa (wpAny_standAt (tqa (tqo (bp (hs pins s2 σ H2 x y v ov iv u _ I2 r1 r2 r q2) fun _ s3 ⟨H3,I3,q3⟩=>?_))))
 exact wpAny_release ⟨σ,H3,I3,q3⟩
def KW (te:TE)(g:TG):TS:=fun D σ H=>te σ H fun x H1=>g x σ H1 D.nx
theorem uQ {tg e:Expr}{te:TE}{g:TG}(he:PE X e te)(hg:PG X tg g)(hs:swapsWithSole [tg] e pos.line X.env=pure false:=by rfl)(hw:swappedStores [tg] e X.env=pure none:=by rfl)
 (h1:(assignEach [tg] X.env).map (·.2)=[assign tg X.env]:=by rfl):PS X (.Assign [tg] e pos) (KW te g):=by
 intro pins s σ H D I h
 refine wpAny_Assign_stores (bp (he pins s σ H _ I h) fun v s1 ⟨x,H1,I1,r1,q1⟩=>?_) hs hw
 rw [h1]
 exact bp (hg pins s1 σ H1 x v _ I1 r1 q1) fun _ s2 q=>q
end
structure It where
 go:Nat->Hp->Prop
 yld:Nat->Hp->V->Hp->Prop
 stop:Nat->Hp->Prop
def gW (X:Cx)(pins:List (Addr×Obj))(H:Hp)(b:Addr):Prop:=
 H b=none/\b≠X.env.locals/\b∉X.fs/\(b∈X.ex\/X.s₀.heap.objs.size<=b)/\(∀x c,X.env.cells.lookup x=some c->c≠b)/\∀p∈X.pn++pins,p.1≠b
theorem Inv.fpOk {X:Cx}{pins:List (Addr×Obj)}{σ:St}{H H':Hp}{s:Shared}{b:Addr}(I:Inv X pins σ H s)(hb:s.heap.objs.size<=b)(hn:H' b=none):gW X pins H' b:=by
 refine ⟨hn,Nat.ne_of_gt (tqi I.lt hb),I.nofs hb,.inr (tqh I.sz hb),fun x c e z=>?_,fun p hp z=>?_⟩
 ·obtain ⟨v,q⟩:=I.cell x c e
  exact absurd (tqi q.lt (by rw [z];exact hb)) (tqn _)
 ·exact absurd (tqi (tqd (I.pin p hp).1) (by rw [z];exact hb)) (tqn _)
structure Turn (P:Program) (w:World) (K:PySem.W.Frag) (tg:Expr) (J:It) (fp:List Addr) (it:Addr) (tn:Nat->Heap->Prop):Prop where
 mem:it∈fp
 obj:∀i h,tn i h->∀b∈fp,∃o,h.get? b=some o/\∀v,o.data≠.cell v
 keep:∀i h h',tn i h->(∀b∈fp,∀o,h.get? b=some o->h'.get? b=some o)->tn i h'
 item:∀(X:Cx),X.prog=P->X.w=w->X.K=K->X.calm=true->∀(i:Nat) (pins:List (Addr×Obj)) (s:Shared) (σ:St) (H:Hp) (E:Value->Shared->Prop),Inv X pins σ H s->(∀b∈fp,gW X pins H b)->tn i s.heap->J.go i H->
  wpAny (model P w) X.A (pyNext (.ref it)) (fun r s1=>∃u,r=some u/\
   wpAny (model P w) X.A (letOwnedTupleGo tg (.ref it) u) (fun _ s2=>∃x H',Inv X pins σ H' s2/\RelV x u/\J.yld i H x H'/\tn (i+1) s2.heap/\∀b∈fp,H' b=none) E s1) E s
 done:∀(X:Cx),X.prog=P->X.w=w->X.K=K->X.calm=true->∀(i:Nat) (pins:List (Addr×Obj)) (s:Shared) (σ:St) (H:Hp) (E:Value->Shared->Prop),Inv X pins σ H s->(∀b∈fp,gW X pins H b)->tn i s.heap->J.stop i H->
  wpAny (model P w) X.A (pyNext (.ref it)) (fun r s1=>r=none/\Inv X pins σ H s1) E s
 self:∀(A:Around) (i:Nat) (s:Shared) (Q:Value->Shared->Prop) (E:Value->Shared->Prop),tn i s.heap->Q (.ref it) s->wpAny (model P w) A (pyIter (.ref it)) Q E s
abbrev TI:=St->Hp->(It->Hp->Prop)->Prop
def C8 (X:Cx)(pins:List (Addr×Obj))(σ:St)(tg:Expr)(R:It->Hp->Prop)(itv:Value)(s2:Shared):Prop:=
 ∃(it:Addr) (fp:List Addr) (tn:Nat->Heap->Prop) (J:It) (H':Hp),itv=.ref it/\Inv X pins σ H' s2/\Turn X.prog X.w X.K tg J fp it tn/\tn 0 s2.heap/\(∀b∈fp,gW X pins H' b)/\R J H'
def PI (X:Cx)(tg iter:Expr)(wi:TI):Prop:=
 ∀(pins:List (Addr×Obj)) (s:Shared) (σ:St) (H:Hp) (R:It->Hp->Prop),Inv X pins σ H s->wi σ H R->
  wpAny (model X.prog X.w) X.A (eval iter X.env) (fun v s1=>wpAny (model X.prog X.w) X.A (pyIter v) (C8 X pins σ tg R) X.xe s1) X.xe s
theorem t8 {M:Model}{A:Around}{E:Value->Shared->Prop}{s:Shared}{tg:Expr}{it:Addr}{u:Value}{o:Obj}{n:String}{vs:Array Value}{Q:Unit->Shared->Prop}(ho:s.heap.get? it=some o)(hc:o.cls=.type n)(hd:o.data=.fields vs)
 (hn:["enumerate","zip","dict_itemiterator","dict_reverseitemiterator","odict_iterator","itertools.zip_longest","itertools.pairwise"].contains n=false) (hQ:Q () s):wpAny M A (letOwnedTupleGo tg (.ref it) u) Q E s:=by
 unfold letOwnedTupleGo
 cases tg<;>first
  |exact tqb hQ
  |(cases u<;>first
   |exact tqb hQ
   | (refine tqa (wpAny_load ho ?_)
      rw [hc,hd]
      show wpAny M A (if (["enumerate","zip","dict_itemiterator","dict_reverseitemiterator","odict_iterator","itertools.zip_longest","itertools.pairwise"].contains n&&vs[0]?==some (rawInt _))=true then _ else _) Q E s
      rw [if_neg (by intro h;rw [hn,Bool.false_and] at h;cases h)]
      exact tqb hQ))
def IH (K:PySem.W.Frag)(a:Addr):It:=
 ⟨fun i H=>∃xs x,dg K H a xs/\xs[i]?=some x,fun i H x H'=>H'=H/\∀xs,dg K H a xs->xs[i]?=some x,fun i H=>∃xs,dg K H a xs/\xs.length<=i⟩
def IF (K:PySem.W.Frag)(a:Addr):It:=
 ⟨fun i H=>∃xs x,d8 K H a xs/\xs[i]?=some x,fun i H x H'=>H'=H/\∀xs,d8 K H a xs->xs[i]?=some x,fun i H=>∃xs,d8 K H a xs/\xs.length<=i⟩
def Dc (lo:Int)(n:Nat):It:=⟨fun i _=>i<n,fun i H x H'=>H'=H/\x=.int (lo+i),fun i _=>n<=i⟩
theorem yN {P:Program}{w:World}{K:PySem.W.Frag}{tg:Expr}(a it:Addr):Turn P w K tg (IH K a) [it] it (fun i h=>h.IsListIter it a i) where
 mem:=by simp
 obj:=fun i h st b hb=>by
  have e:b=it:=by simpa using hb
  subst e
  obtain ⟨o,e,c,d⟩:=st
  exact ⟨o,e,fun v z=>by rw [d] at z;cases z⟩
 keep:=fun i h h' st k=>st.at fun o e=>k it (by simp) o e
 item:=by
  intro X hP hw hK hc i pins s σ H E I hf st hg
  subst hP hw hK
  obtain ⟨xs,x,hq,hx⟩:=hg
  obtain ⟨its,rv,p,hz⟩:=I.list hq
  obtain ⟨u,hu,ru⟩:=rv.get hx
  obtain ⟨f0,f1,f2,f3,f4,f5⟩:=hf it (by simp)
  refine wpAny_pyNext_list_item st p.isList (x:=u) (by simpa using hu) fun h' st' sb=>?_
  have I1:Inv X pins σ H {s with heap:=h'}:=I.turned (t':=s.toks) (fun b o hb e=>(sb.2 b hb).trans e) f0 f1 f3 f4 f5
  obtain ⟨o,e,c,d⟩:=id st'
  exact ⟨u,rfl,t8 (s:={s with heap:=h'}) e c d (by decide) ⟨x,H,I1,ru,⟨rfl,fun ys hy=>by rw [I.list_inj hy hq];exact hx⟩,st',fun b hb=>(hf b hb).1⟩⟩
 done:=by
  intro X hP hw hK hc i pins s σ H E I hf st hg
  subst hP hw hK
  obtain ⟨xs,hq,hx⟩:=hg
  obtain ⟨its,rv,p,hz⟩:=I.list hq
  obtain ⟨f0,f1,f2,f3,f4,f5⟩:=hf it (by simp)
  have hl:=rv.length
  exact wpAny_pyNext_list_end (I.ok.hd hc) st p.isList (by simp;omega) fun h' eb=>⟨rfl,I.turned (t':=s.toks) (fun b o hb e=>eb b o hb e) f0 f1 f3 f4 f5⟩
 self:=fun _ _ _ _ _ st h=>wpAny_pyIter_listiter st h
theorem wW {P:Program}{w:World}{K:PySem.W.Frag}{tg:Expr}(a it:Addr):Turn P w K tg (IF K a) [it] it (fun i h=>h.IsTupleIter it a i) where
 mem:=by simp
 obj:=fun i h st b hb=>by
  have e:b=it:=by simpa using hb
  subst e
  obtain ⟨o,e,c,d⟩:=st
  exact ⟨o,e,fun v z=>by rw [d] at z;cases z⟩
 keep:=fun i h h' st k=>st.at fun o e=>k it (by simp) o e
 item:=by
  intro X hP hw hK hc i pins s σ H E I hf st hg
  subst hP hw hK
  obtain ⟨xs,x,hq,hx⟩:=hg
  obtain ⟨its,rv,p,hz⟩:=I.tuple hq
  obtain ⟨u,hu,ru⟩:=rv.get hx
  obtain ⟨f0,f1,f2,f3,f4,f5⟩:=hf it (by simp)
  refine wpAny_pyNext_tuple_item st (show s.heap.IsTuple a its.toArray from p) (x:=u) (by simpa using hu) fun h' st' sb=>?_
  have I1:Inv X pins σ H {s with heap:=h'}:=I.turned (t':=s.toks) (fun b o hb e=>(sb.2 b hb).trans e) f0 f1 f3 f4 f5
  obtain ⟨o,e,c,d⟩:=id st'
  exact ⟨u,rfl,t8 (s:={s with heap:=h'}) e c d (by decide) ⟨x,H,I1,ru,⟨rfl,fun ys hy=>by rw [I.tuple_inj hy hq];exact hx⟩,st',fun b hb=>(hf b hb).1⟩⟩
 done:=by
  intro X hP hw hK hc i pins s σ H E I hf st hg
  subst hP hw hK
  obtain ⟨xs,hq,hx⟩:=hg
  obtain ⟨its,rv,p,hz⟩:=I.tuple hq
  obtain ⟨f0,f1,f2,f3,f4,f5⟩:=hf it (by simp)
  have hl:=rv.length
  exact wpAny_pyNext_tuple_end (I.ok.hd hc) st (show s.heap.IsTuple a its.toArray from p) (by simp;omega) fun h' eb=>⟨rfl,I.turned (t':=s.toks) (fun b o hb e=>eb b o hb e) f0 f1 f3 f4 f5⟩
 self:=fun _ _ _ _ _ st h=>wpAny_pyIter_tupleiter st h
theorem wX {P:Program}{w:World}{K:PySem.W.Frag}{tg:Expr}(it:Addr)(lo:Int)(n:Nat):Turn P w K tg (Dc lo n) [it] it (fun i h=>IsRangeIter h it (lo+(i:Nat)*1) ((n:Int)-(i:Nat)) 1) where
 mem:=by simp
 obj:=fun i h st b hb=>by
  have e:b=it:=by simpa using hb
  subst e
  exact ⟨_,st,fun v z=>by
   have z':Data.fields _=Data.cell v:=z
   cases z'⟩
 keep:=fun i h h' st k=>k it (by simp) _ st
 item:=by
  intro X hP hw hK hc i pins s σ H E I hf st hg
  subst hP hw hK
  obtain ⟨f0,f1,f2,f3,f4,f5⟩:=hf it (by simp)
  have W:=Walks.range (prog:=X.prog) (w:=X.w) (I.ok.hd hc) it lo 1 n
  refine W.item i s _ _ hg st fun v h' tk hv st' kk=>?_
  obtain ⟨t,rfl⟩:=hv
  have I1:Inv X pins σ H {s with heap:=h',toks:=tk}:=I.turned (fun b o hb e=>kk b o (by simpa using hb) e) f0 f1 f3 f4 f5
  refine ⟨_,rfl,t8 (s:={s with heap:=h',toks:=tk}) (n:="range_iterator") st' rfl rfl (by decide) ⟨.int (lo+i),H,I1,⟨t,?_⟩,⟨rfl,rfl⟩,st',fun b hb=>(hf b hb).1⟩⟩
  rw [Int.mul_one]
 done:=by
  intro X hP hw hK hc i pins s σ H E I hf st hg
  subst hP hw hK
  obtain ⟨f0,f1,f2,f3,f4,f5⟩:=hf it (by simp)
  exact wpAny_pyNext_range_end (I.ok.hd hc) st (by have:n<=i:=hg;omega) fun h' eb=>⟨rfl,I.turned (t':=s.toks) (fun b o hb e=>eb b o hb e) f0 f1 f3 f4 f5⟩
 self:=fun _ _ _ _ _ st h=>wpAny_pyIter_rangeiter st h
end L2
namespace L2
open PySem PySem.Spec PyProof.Rows
section
variable {X:Cx}{tg:Expr}
def JB (K:PySem.W.Frag)(tl:TE):TI:=fun σ H R=>tl σ H fun x H1=>∃a,x=.ref a/\(∃xs,dg K H1 a xs)/\R (IH K a) H1
def LW (K:PySem.W.Frag)(tl:TE):TI:=fun σ H R=>tl σ H fun x H1=>∃a,x=.ref a/\(∃xs,d8 K H1 a xs)/\R (IF K a) H1
theorem D1 {l:Expr}{tl:TE}(hl:PE X l tl):PI X tg l (JB X.K tl):=by
 intro pins s σ H R I h
 refine bp (hl pins s σ H _ I h) fun v s1 ⟨x,H1,I1,r1,q1⟩=>?_
 obtain ⟨a,e,⟨xs,hq⟩,q⟩:=q1
 subst e
 cases r1
 obtain ⟨its,rv,p,hz⟩:=I1.list hq
 refine wpAny_pyIter_list p.isList ?_
 refine ⟨s1.heap.objs.size,[s1.heap.objs.size],_,_,H1,rfl,I1.kept (t':=s1.toks) fun b o e=>tqc _ e,yN a _,⟨_,tqe _ rfl,rfl,rfl⟩,fun b hb=>?_,q⟩
 have e:b=s1.heap.objs.size:=by simpa using hb
 subst e
 exact I1.fpOk (tqg _) (I1.hok.fresh (tqg _))
theorem FY {l:Expr}{tl:TE}(hl:PE X l tl):PI X tg l (LW X.K tl):=by
 intro pins s σ H R I h
 refine bp (hl pins s σ H _ I h) fun v s1 ⟨x,H1,I1,r1,q1⟩=>?_
 obtain ⟨a,e,⟨xs,hq⟩,q⟩:=q1
 subst e
 cases r1
 obtain ⟨its,rv,p,hz⟩:=I1.tuple hq
 refine wpAny_pyIter_tuple (show s1.heap.IsTuple a its.toArray from p) ?_
 refine ⟨s1.heap.objs.size,[s1.heap.objs.size],_,_,H1,rfl,I1.kept (t':=s1.toks) fun b o e=>tqc _ e,wW a _,⟨_,tqe _ rfl,rfl,rfl⟩,fun b hb=>?_,q⟩
 have e:b=s1.heap.objs.size:=by simpa using hb
 subst e
 exact I1.fpOk (tqg _) (I1.hok.fresh (tqg _))
theorem Bg {pins:List (Addr×Obj)}{σ:St}{H:Hp}{s:Shared}{R:It->Hp->Prop}{E:Value->Shared->Prop}{lo hi:Int}{t u v:Tok}{tk:Nat}(I:Inv X pins σ H s)(h1:-(2^62)<=lo)(h2:lo<2^62)(h3:-(2^62)<=hi)(h4:hi<2^62)
 (q:R (Dc lo (hi-lo).toNat) H):wpAny (model X.prog X.w) X.A (pyIter (.ref s.heap.objs.size)) (C8 X pins σ tg R) E {s with heap:=s.heap.push {cls:=.type "range",data:=.fields #[.int lo t,.int hi u,.int 1 v]},toks:=tk}:=by
 refine wpAny_pyIter_range (IsRange.new ..) (small_one h1 h2 h3 h4) ?_
 have I1:Inv X pins σ H {s with heap:=s.heap.push {cls:=.type "range",data:=.fields #[.int lo t,.int hi u,.int 1 v]},toks:=tk}:=I.kept fun b o e=>tqc _ e
 refine ⟨(s.heap.push {cls:=.type "range",data:=.fields #[.int lo t,.int hi u,.int 1 v]}).objs.size,[(s.heap.push {cls:=.type "range",data:=.fields #[.int lo t,.int hi u,.int 1 v]}).objs.size],_,_,H,rfl,
  I1.kept (t':=tk) fun b o e=>tqc _ e,wX _ lo (hi-lo).toNat,?_,fun b hb=>?_,q⟩
 ·have e1:lo+((0:Nat):Int)*1=lo:=by simp
  have e2:(((hi-lo).toNat:Nat):Int)-((0:Nat):Int)=Builtin.Range.rangeSize lo hi 1:=by rw [rangeSize_one];split<;>omega
  show IsRangeIter _ _ (lo+((0:Nat):Int)*1) ((((hi-lo).toNat:Nat):Int)-((0:Nat):Int)) 1
  rw [e1,e2]
  exact tqe _ rfl
 ·have e:b=(s.heap.push {cls:=.type "range",data:=.fields #[.int lo t,.int hi u,.int 1 v]}).objs.size:=by simpa using hb
  subst e
  exact I1.fpOk (tqg _) (I1.hok.fresh (tqg _))
def JA (ta:TA):TI:=fun σ H R=>ta σ H fun vs H1=>∃j:Int,vs=[.int j]/\-(2^62)<=j/\j<2^62/\R (Dc 0 j.toNat) H1
theorem zj {a:Expr}{ta:TA}{p pos:Pos}(hg:Gl X "range")(hm:X.mg "range"=none)(ha:PA X [a] ta)(hs:starEach [a] X.env=[(false,eval a X.env)]:=by rfl):PI X tg (.Call (.Name "range" p) [a] [] pos) (JA ta):=by
 intro pins s σ H R I h
 refine Call_ (iN I hg hm boot_range (PyProof.Rows.callWith_type1 (bp (ha pos pins s σ H _ I h) fun us s1 ⟨vs,H1,I1,r1,q1⟩=>?_) hs rfl))
 obtain ⟨j,e,q1,q2,q⟩:=q1
 subst e
 cases r1 with
 | cons r rr =>
   cases rr
   obtain ⟨t,rfl⟩:=r
   exact call_range_1 (Bg I1 (by omega) (by omega) q1 q2 (by simpa using q))
def KU (wi:TI)(g:TG)(tb:TS):TS:=fun D σ H=>wi σ H fun J H1=>∃W:Nat->Nat->St->Hp->Prop,(∃m,W 0 m σ H1)/\∀i m σ H,W i m σ H->
 (J.stop i H/\D.nx σ H)\/(J.go i H/\∃N:St->Hp->Prop,(∀σ' H',N σ' H'->∃m',m'<m/\W (i+1) m' σ' H')/\∀x H',J.yld i H x H'->g x σ H' fun σ2 H2=>tb {D with nx:=N,ct:=N,bk:=D.nx} σ2 H2)
def qg (fp:List Addr)(h:Heap):List (Addr×Obj):=fp.filterMap fun b=>(h.get? b).map fun o=>(b,o)
theorem jZ {fp:List Addr}{h:Heap}{b:Addr}{o:Obj}(hb:b∈fp)(e:h.get? b=some o):(b,o)∈qg fp h:=List.mem_filterMap.mpr ⟨b,hb,by rw [e];rfl⟩
theorem zD {fp:List Addr}{h:Heap}{p:Addr×Obj}(hp:p∈qg fp h):p.1∈fp/\h.get? p.1=some p.2:=by
 obtain ⟨b,hb,e⟩:=List.mem_filterMap.mp hp
 cases q:h.get? b with
 |none=>rw [q] at e;cases e
 | some o =>
   rw [q] at e
   have e':(b,o)=p:=Option.some.inj e
   subst e'
   exact ⟨hb,q⟩
theorem Inv.pinned {pins:List (Addr×Obj)}{σ:St}{H:Hp}{s:Shared}{fp:List Addr}(I:Inv X pins σ H s)(hf:∀b∈fp,gW X pins H b)(ho:∀b∈fp,∃o,s.heap.get? b=some o/\∀v,o.data≠.cell v):Inv X (pins++qg fp s.heap) σ H s:=
 I.pins_of fun p hp=>(List.mem_append.mp hp).elim (fun z=>I.pin p (List.mem_append_right _ z)) fun z=>by
  obtain ⟨hb,e⟩:=zD z
  obtain ⟨f0,f1,f2,_⟩:=hf p.1 hb
  obtain ⟨o,e',d⟩:=ho p.1 hb
  rw [e] at e';cases e'
  exact ⟨e,f0,f1,f2,d⟩
theorem Inv.unpinned {pins pl:List (Addr×Obj)}{σ:St}{H:Hp}{s:Shared}(I:Inv X (pins++pl) σ H s):Inv X pins σ H s:=I.pins_of fun p hp=>I.pin p (List.mem_append_right _ (List.mem_append_left _ hp))
theorem FX {iter:Expr}{body:List Stmt}{wi:TI}{g:TG}{tb:TS}{pos:Pos}(hp:PassesOwn (model X.prog X.w) X.A X.env X.xe)(hc:X.calm=true)(hi:PI X tg iter wi)(hg:PG X tg g)(hb:n5 X body tb)
 (hs:∀x,foldedSetIterable iter X.env x=pure x:=by intro _;rfl):PS X (.For tg iter body [] pos) (KU wi g tb):=by
 intro pins s σ H D I h
 refine wpAny_For (bp (hi pins s σ H _ I h) fun v s1 h1=>bp h1 fun itv s2 h2=>?_) hs
 obtain ⟨it,fp,tn,J,H2,e,I2,T,st2,f2,W,⟨m0,w0⟩,turn⟩:=h2
 subst e
 have stat:∀{H':Hp},(∀b∈fp,H' b=none)->∀b∈fp,gW X pins H' b:=fun hn b hb=>⟨hn b hb,(f2 b hb).2⟩
 refine codeAny_forLoop_any (fun n s'=>∃i σ' H',Inv X pins σ' H' s'/\tn i s'.heap/\(∀b∈fp,H' b=none)/\W i n σ' H') ?_ m0 ⟨0,σ,H2,I2,st2,fun b hb=>(f2 b hb).1,w0⟩
 rintro n s3 ⟨i,σ3,H3,I3,st3,fr3,w3⟩
 rcases turn i n σ3 H3 w3 with ⟨stop,qn⟩|⟨go,N,hN,step⟩
 ·refine wpAny_passesOwn hp (bp (T.done X rfl rfl rfl hc i pins s3 σ3 H3 X.xe I3 (stat fr3) st3 stop) fun r s4 ⟨hr,I4⟩=>?_)
  subst hr
  exact wpAny_execs_nil ⟨σ3,H3,I4,qn⟩
 ·refine wpAny_passesOwn hp (bp (T.item X rfl rfl rfl hc i pins s3 σ3 H3 X.xe I3 (stat fr3) st3 go) fun r s4 ⟨u,hr,h4⟩=>?_)
  subst hr
  refine wpAny_passesOwn hp (bp h4 fun _ s5 ⟨x,H5,I5,r5,y5,st5,fr5⟩=>?_)
  have I5':=I5.pinned (stat fr5) (T.obj _ _ st5)
  refine wpAny_passesOwn hp (bp (hg _ s5 σ3 H5 x u _ I5' r5 (step x H5 y5)) fun _ s6 ⟨σ6,H6,I6,q6⟩=>?_)
  refine wpAny_passesOwn hp (bp (hb _ s6 σ6 H6 _ I6 q6) fun f s7 q7=>?_)
  have again:∀{σ7:St}{H7:Hp},Inv X (pins++qg fp s5.heap) σ7 H7 s7->N σ7 H7->∃m,m<n/\∃i σ' H',Inv X pins σ' H' s7/\tn i s7.heap/\(∀b∈fp,H' b=none)/\W i m σ' H':=fun {σ7 H7} I7 n7=>by
   obtain ⟨m',hm,w7⟩:=hN σ7 H7 n7
   refine ⟨m',hm,i+1,σ7,H7,I7.unpinned,T.keep _ _ _ st5 fun b hb o e=>(I7.pin (b,o) (List.mem_append_right _ (List.mem_append_right _ (jZ hb e)))).1,fun b hb=>?_,w7⟩
   obtain ⟨o,e,d⟩:=T.obj _ _ st5 b hb
   exact (I7.pin (b,o) (List.mem_append_right _ (List.mem_append_right _ (jZ hb e)))).2.1
  cases f with
  |next=>obtain ⟨σ7,H7,I7,n7⟩:=q7;exact again I7 n7
  |cont=>obtain ⟨σ7,H7,I7,n7⟩:=q7;exact again I7 n7
  |brk=>obtain ⟨σ7,H7,I7,q7⟩:=q7;exact ⟨σ7,H7,I7.unpinned,q7⟩
  |ret v=>obtain ⟨x7,σ7,H7,I7,r7,q7⟩:=q7;exact ⟨x7,σ7,H7,I7.unpinned,r7,q7⟩
end
end L2
namespace L2
open PySem PySem.Spec PyProof.Rows
abbrev R2:=V->V->Hp->VK->Prop
def cu (X:Cx)(f:Value->Value->Sem Value)(r:R2):Prop:=
 ∀(pins:List (Addr×Obj)) (s:Shared) (σ:St) (H:Hp) (x y:V) (v u:Value) (Q:VK),Inv X pins σ H s->RelV x v->RelV y u->r x y H Q->
  wpAny (model X.prog X.w) X.A (f v u) (EP X pins σ Q) X.xe s
def Iz (X:Cx)(f:Value->Sem Value)(r:V->Hp->VK->Prop):Prop:=
 ∀(pins:List (Addr×Obj)) (s:Shared) (σ:St) (H:Hp) (x:V) (v:Value) (Q:VK),Inv X pins σ H s->RelV x v->r x H Q->
  wpAny (model X.prog X.w) X.A (f v) (EP X pins σ Q) X.xe s
def dj (X:Cx)(f:Value)(r:List V->Hp->VK->Prop):Prop:=
 ∀(pins:List (Addr×Obj)) (s:Shared) (σ:St) (H:Hp) (xs:List V) (us:List Value) (Q:VK),Inv X pins σ H s->Vals xs us->r xs H Q->
  wpAny (model X.prog X.w) X.A (call f us) (EP X pins σ Q) X.xe s
def Mh (X:Cx)(r:V->Hp->(Bool->Hp->Prop)->Prop):Prop:=
 ∀(pins:List (Addr×Obj)) (s:Shared) (σ:St) (H:Hp) (x:V) (v:Value) (Q:Bool->Hp->Prop),Inv X pins σ H s->RelV x v->r x H Q->
  wpAny (model X.prog X.w) X.A (truthy v) (TP X pins σ Q) X.xe s
def yR (r:R2)(ta tb:TE):TE:=fun σ H Q=>ta σ H fun x H1=>tb σ H1 fun y H2=>r x y H2 Q
def tUn (r:V->Hp->VK->Prop)(ta:TE):TE:=fun σ H Q=>ta σ H fun x H1=>r x H1 Q
def rI (C:Int->Int->Prop)(g:Int->Int->V):R2:=fun x y H Q=>∃i j,x=.int i/\y=.int j/\C i j/\Q (g i j) H
def sI (g:Int->Int->V):R2:=fun x y H Q=>∃i j,x=.int i/\y=.int j/\Q (g i j) H
def rU (g:Int->V):V->Hp->VK->Prop:=fun x H Q=>∃i,x=.int i/\Q (g i) H
section
variable {X:Cx}{a b c:Expr}{ta tb tc:TE}{pos:Pos}
theorem Cj (ha:PE X a ta)(hb:PE X b tb){pins:List (Addr×Obj)}{s:Shared}{σ:St}{H:Hp}{R:V->V->Hp->Prop}(I:Inv X pins σ H s)
 (h:ta σ H fun x H1=>tb σ H1 fun y H2=>R x y H2) {Q:Value->Shared->Prop}{f:Value->Value->Sem Value}
 (hf:∀v u s2 x y H2,Inv X pins σ H2 s2->RelV x v->RelV y u->R x y H2->wpAny (model X.prog X.w) X.A (f v u) Q X.xe s2) :
 wpAny (model X.prog X.w) X.A (eval a X.env) (fun v s₁=>wpAny (model X.prog X.w) X.A (eval b X.env) (fun u s₂=>wpAny (model X.prog X.w) X.A (f v u) Q X.xe s₂) X.xe s₁) X.xe s:=by
 refine bp (ha pins s σ H _ I h) fun v s1 ⟨x,H1,I1,r1,q1⟩=>?_
 refine bp (hb pins s1 σ H1 _ I1 q1) fun u s2 ⟨y,H2,I2,r2,q2⟩=>?_
 exact hf v u s2 x y H2 I2 r1 r2 q2
theorem Jj {op:Operator}{r:R2}(ho:cu X (binaryOp op) r)(ha:PE X a ta)(hb:PE X b tb):PE X (.BinOp a op b pos) (yR r ta tb):=by
 intro pins s σ H Q I h
 exact wpAny_BinOp (Cj ha hb I h fun v u s2 x y H2 I2 rx ry q=>ho pins s2 σ H2 x y v u Q I2 rx ry q)
theorem CD {op:UnaryOp}{r:V->Hp->VK->Prop}(ho:Iz X (unaryOp op) r)(ha:PE X a ta):PE X (.UnaryOp op a pos) (tUn r ta):=by
 intro pins s σ H Q I h
 exact UnaryOp_ (bp (ha pins s σ H _ I h) fun v s1 ⟨x,H1,I1,r1,q1⟩=>ho pins s1 σ H1 x v Q I1 r1 q1)
theorem CJ {f:Value->Value->Sem Value}{C:Int->Int->Prop}{g:Int->Int->Int}
 (rule:∀(i j:Int) (t u:Tok) (s:Shared) (Q:Value->Shared->Prop) (E:Value->Shared->Prop),C i j->Q (.int (g i j) s.toks) {s with toks:=s.toks+1}->wpAny (model X.prog X.w) X.A (f (.int i t) (.int j u)) Q E s) :
 cu X f (rI C fun i j=>.int (g i j)):=by
 intro pins s σ H x y v u Q I rx ry h
 obtain ⟨i,j,rfl,rfl,hc,q⟩:=h
 obtain ⟨t,rfl⟩:=rx
 obtain ⟨t',rfl⟩:=ry
 exact rule i j t t' s _ _ hc ⟨.int (g i j),H,I.tok _,⟨_,rfl⟩,q⟩
theorem Gy {f:Value->Value->Sem Value}{g:Int->Int->Int}
 (rule:∀(i j:Int) (t u:Tok) (s:Shared) (Q:Value->Shared->Prop) (E:Value->Shared->Prop),Q (.int (g i j) s.toks) {s with toks:=s.toks+1}->wpAny (model X.prog X.w) X.A (f (.int i t) (.int j u)) Q E s) :
 cu X f (sI fun i j=>.int (g i j)):=by
 intro pins s σ H x y v u Q I rx ry h
 obtain ⟨i,j,rfl,rfl,q⟩:=h
 obtain ⟨t,rfl⟩:=rx
 obtain ⟨t',rfl⟩:=ry
 exact rule i j t t' s _ _ ⟨.int (g i j),H,I.tok _,⟨_,rfl⟩,q⟩
theorem xt {f:Value->Value->Sem Value}{g:Int->Int->Bool}
 (rule:∀(i j:Int) (t u:Tok) (s:Shared) (Q:Value->Shared->Prop) (E:Value->Shared->Prop),Q (.bool (g i j)) s->wpAny (model X.prog X.w) X.A (f (.int i t) (.int j u)) Q E s) :
 cu X f (sI fun i j=>.bl (g i j)):=by
 intro pins s σ H x y v u Q I rx ry h
 obtain ⟨i,j,rfl,rfl,q⟩:=h
 obtain ⟨t,rfl⟩:=rx
 obtain ⟨t',rfl⟩:=ry
 exact rule i j t t' s _ _ ⟨.bl (g i j),H,I,rfl,q⟩
def IK (i j:Int):Prop:=0<j/\j<1073741824
def IJ (i j:Int):Prop:=0<=j/\j<=1000000/\i.natAbs<2^64
def Cs (i j:Int):Prop:=(-(2^64)<i/\i<2^64)\/(-(2^64)<j/\j<2^64)
theorem Cs.ok {i j:Int}(h:Cs i j):IntMulOk i j:=by
 rcases h with ⟨h1,h2⟩|⟨h1,h2⟩
 ·exact .of_left (intBits_le_64 h1 h2)
 ·exact .of_right (intBits_le_64 h1 h2)
theorem Gx:cu X (binaryOp .Add) (sI fun i j=>.int (i+j)):=Gy fun _ _ _ _ _ _ _ q=>add_int q
theorem Gp:cu X (binaryOp .Sub) (sI fun i j=>.int (i-j)):=Gy fun _ _ _ _ _ _ _ q=>sub_int q
theorem Gs:cu X (binaryOp .Mult) (rI Cs fun i j=>.int (i*j)):=CJ fun _ _ _ _ _ _ _ hc q=>mul_int q hc.ok
theorem D9:cu X (binaryOp .FloorDiv) (rI IK fun i j=>.int (i / j)):=CJ fun i j _ _ _ _ _ hc q=>by
 have h1:(0:Int)<j:=hc.1
 have h2:j<1073741824:=hc.2
 exact floordiv_int (by omega) (by rw [Int.fdiv_eq_ediv_of_nonneg i (by omega)];exact q) (.inl (PyProof.noPylong_small (by omega)))
theorem Gu:cu X (binaryOp .Mod) (rI (fun _ j=>0<j) fun i j=>.int (i % j)):=CJ fun i j _ _ _ _ _ hc q=>by
 have h1:(0:Int)<j:=hc
 exact mod_int' (by omega) (by rw [Int.fmod_eq_emod_of_nonneg i (by omega)];exact q)
theorem Gr:cu X (binaryOp .Pow) (rI IJ fun i j=>.int (i^j.toNat)):=CJ fun _ _ _ _ _ _ _ hc q=>pow_int_small hc.1 hc.2.1 hc.2.2 q
theorem unI {f:Value->Sem Value}{g:Int->Int}
 (rule:∀(i:Int) (t:Tok) (s:Shared) (Q:Value->Shared->Prop) (E:Value->Shared->Prop),Q (.int (g i) s.toks) {s with toks:=s.toks+1}->wpAny (model X.prog X.w) X.A (f (.int i t)) Q E s) :
 Iz X f (rU fun i=>.int (g i)):=by
 intro pins s σ H x v Q I rx h
 obtain ⟨i,rfl,q⟩:=h
 obtain ⟨t,rfl⟩:=rx
 exact rule i t s _ _ ⟨.int (g i),H,I.tok _,⟨_,rfl⟩,q⟩
theorem yK:Iz X (unaryOp .USub) (rU fun i=>.int (-i)):=unI fun _ _ _ _ _ q=>neg_int q
end
def Fv:V->V->Bool
 |.non,.non=>true|.non,.int _=>true|.int _,.non=>true|.non,.bl _=>true|.bl _,.non=>true|.non,.str _=>true|.str _,.non=>true
 |.int _,.int _=>true|.bl _,.bl _=>true|.str _,.str _=>true|.byt _,.byt _=>true
 |.int _,.str _=>true|.str _,.int _=>true|.bl _,.str _=>true|.str _,.bl _=>true
 |_,_=>false
def rEq:R2:=fun x y H Q=>Fv x y=true/\Q (.bl (decide (x=y))) H
def rNe:R2:=fun x y H Q=>Fv x y=true/\Q (.bl (!decide (x=y))) H
theorem wL {i j:Int}:decide (V.int i=V.int j)=(i==j):=by
 rw [Bool.eq_iff_iff]
 simp
theorem Af {i j:Bool}:decide (V.bl i=V.bl j)=(i==j):=by
 rw [Bool.eq_iff_iff]
 simp
theorem oE {i j:Str}:decide (V.str i=V.str j)=(i==j):=by
 rw [Bool.eq_iff_iff]
 simp
theorem wN {i j:Array UInt8}:decide (V.byt i=V.byt j)=(i.toList==j.toList):=by
 rw [Bool.eq_iff_iff]
 cases i
 cases j
 simp
section
variable {X:Cx}{a b c:Expr}{ta tb tc:TE}{pos:Pos}
theorem bR {pins:List (Addr×Obj)}{σ:St}{H:Hp}{s:Shared}{Q:VK}{k k':Bool}(I:Inv X pins σ H s)(q:Q (.bl k) H)(e:k=k'):EP X pins σ Q (.bool k') s:=by
 subst e
 exact ⟨.bl k,H,I,rfl,q⟩
theorem Jt:cu X (compareOp .Eq) rEq:=by
 intro pins s σ H x y v u Q I rx ry h
 obtain ⟨hs,q⟩:=h
 cases x with
 | non =>
   cases rx
   cases y with
   |non=>cases ry;exact PySem.EqNone.eq_none_none (bR I q (by simp))
   |bl j=>cases ry;exact PySem.EqNone.eq_none_bool (bR I q (by simp))
   |int j=>obtain ⟨t',rfl⟩:=ry;exact PySem.EqNone.eq_none_int (bR I q (by simp))
   |str j=>obtain ⟨t',rfl⟩:=ry;exact PySem.EqNone.eq_none_str (bR I q (by simp))
   |_=>exact absurd (show false=true from hs) tqj
 | bl i =>
   cases rx
   cases y with
   |non=>cases ry;exact PySem.EqNone.eq_bool_none (bR I q (by simp))
   |bl j=>cases ry;exact eq_bool (bR I q Af)
   |str j=>obtain ⟨t',rfl⟩:=ry;exact PySem.EqMixed.eq_bool_str (bR I q (by simp))
   |_=>exact absurd (show false=true from hs) tqj
 | int i =>
   obtain ⟨t,rfl⟩:=rx
   cases y with
   |non=>cases ry;exact PySem.EqNone.eq_int_none (bR I q (by simp))
   |int j=>obtain ⟨t',rfl⟩:=ry;exact eq_int (bR I q wL)
   |str j=>obtain ⟨t',rfl⟩:=ry;exact PySem.EqMixed.eq_int_str (bR I q (by simp))
   |_=>exact absurd (show false=true from hs) tqj
 | str i =>
   obtain ⟨t,rfl⟩:=rx
   cases y with
   |non=>cases ry;exact PySem.EqNone.eq_str_none (bR I q (by simp))
   |bl j=>cases ry;exact PySem.EqMixed.eq_str_bool (bR I q (by simp))
   |int j=>obtain ⟨t',rfl⟩:=ry;exact PySem.EqMixed.eq_str_int (bR I q (by simp))
   |str j=>obtain ⟨t',rfl⟩:=ry;exact eq_str (bR I q oE)
   |_=>exact absurd (show false=true from hs) tqj
 | byt i =>
   obtain ⟨t,rfl⟩:=rx
   cases y with
   |byt j=>obtain ⟨t',rfl⟩:=ry;exact PySem.W.eq_bytes (bR I q wN)
   |_=>exact absurd (show false=true from hs) tqj
 |_=>cases y<;>exact absurd (show false=true from hs) tqj
theorem Jo:cu X (compareOp .NotEq) rNe:=by
 intro pins s σ H x y v u Q I rx ry h
 obtain ⟨hs,q⟩:=h
 cases x with
 | non =>
   cases rx
   cases y with
   |non=>cases ry;exact PySem.EqNone.ne_none_none (bR I q (by simp))
   |bl j=>cases ry;exact PySem.EqNone.ne_none_bool (bR I q (by simp))
   |int j=>obtain ⟨t',rfl⟩:=ry;exact PySem.EqNone.ne_none_int (bR I q (by simp))
   |str j=>obtain ⟨t',rfl⟩:=ry;exact PySem.EqNone.ne_none_str (bR I q (by simp))
   |_=>exact absurd (show false=true from hs) tqj
 | bl i =>
   cases rx
   cases y with
   |non=>cases ry;exact PySem.EqNone.ne_bool_none (bR I q (by simp))
   |bl j=>cases ry;exact ne_bool (bR I q (congrArg not Af))
   |str j=>obtain ⟨t',rfl⟩:=ry;exact PySem.EqMixed.ne_bool_str (bR I q (by simp))
   |_=>exact absurd (show false=true from hs) tqj
 | int i =>
   obtain ⟨t,rfl⟩:=rx
   cases y with
   |non=>cases ry;exact PySem.EqNone.ne_int_none (bR I q (by simp))
   |int j=>obtain ⟨t',rfl⟩:=ry;exact ne_int (bR I q (congrArg not wL))
   |str j=>obtain ⟨t',rfl⟩:=ry;exact PySem.EqMixed.ne_int_str (bR I q (by simp))
   |_=>exact absurd (show false=true from hs) tqj
 | str i =>
   obtain ⟨t,rfl⟩:=rx
   cases y with
   |non=>cases ry;exact PySem.EqNone.ne_str_none (bR I q (by simp))
   |bl j=>cases ry;exact PySem.EqMixed.ne_str_bool (bR I q (by simp))
   |int j=>obtain ⟨t',rfl⟩:=ry;exact PySem.EqMixed.ne_str_int (bR I q (by simp))
   |str j=>obtain ⟨t',rfl⟩:=ry;exact ne_str (bR I q (congrArg not oE))
   |_=>exact absurd (show false=true from hs) tqj
 | byt i =>
   obtain ⟨t,rfl⟩:=rx
   cases y with
   |byt j=>obtain ⟨t',rfl⟩:=ry;exact PySem.W.ne_bytes (bR I q (congrArg not wN))
   |_=>exact absurd (show false=true from hs) tqj
 |_=>cases y<;>exact absurd (show false=true from hs) tqj
theorem Jp:cu X (compareOp .Lt) (sI fun i j=>.bl (decide (i<j))):=xt fun _ _ _ _ _ _ _ q=>lt_int q
theorem Jq:cu X (compareOp .LtE) (sI fun i j=>.bl (decide (i<=j))):=xt fun _ _ _ _ _ _ _ q=>le_int q
theorem Jr:cu X (compareOp .Gt) (sI fun i j=>.bl (decide (j<i))):=xt fun _ _ _ _ _ _ _ q=>gt_int q
theorem Js:cu X (compareOp .GtE) (sI fun i j=>.bl (decide (j<=i))):=xt fun _ _ _ _ _ _ _ q=>ge_int q
theorem zC:cu X (compareOp .In) (fun x y H Q=>∃i j,x=.str i/\y=.str j/\Q (.bl (!(Builtin.Str.occurrences j i 0 j.length 1).isEmpty)) H):=by
 intro pins s σ H x y v u Q I rx ry h
 obtain ⟨i,j,rfl,rfl,q⟩:=h
 obtain ⟨t,rfl⟩:=rx
 obtain ⟨t',rfl⟩:=ry
 exact in_str (bR I q rfl)
theorem Gv:cu X (compareOp .Is) (fun x y H Q=>y=.non/\Q (.bl (decide (x=.non))) H):=by
 intro pins s σ H x y v u Q I rx ry h
 obtain ⟨rfl,q⟩:=h
 cases ry
 refine is_none_gen (bR I q ?_)
 cases x<;>first
  |(cases rx;rfl)
  |(obtain ⟨t,rfl⟩:=rx;rfl)
theorem D8:cu X (compareOp .IsNot) (fun x y H Q=>y=.non/\Q (.bl (!decide (x=.non))) H):=by
 intro pins s σ H x y v u Q I rx ry h
 obtain ⟨rfl,q⟩:=h
 cases ry
 refine isnot_none_gen (bR I q ?_)
 cases x<;>first
  |(cases rx;rfl)
  |(obtain ⟨t,rfl⟩:=rx;rfl)
theorem uZ:cu X (compareOp .NotIn) (fun x y H Q=>∃i j,x=.str i/\y=.str j/\Q (.bl (!(!(Builtin.Str.occurrences j i 0 j.length 1).isEmpty))) H):=by
 intro pins s σ H x y v u Q I rx ry h
 obtain ⟨i,j,rfl,rfl,q⟩:=h
 obtain ⟨t,rfl⟩:=rx
 obtain ⟨t',rfl⟩:=ry
 exact notIn_str (bR I q rfl)
theorem D3 {op:CmpOp}{r:R2}(ho:cu X (compareOp op) r)(ha:PE X a ta)(hb:PE X b tb)(hm:behindInMarks op b=false):PE X (.Compare a [op] [b] pos) (yR r ta tb):=by
 intro pins s σ H Q I h
 exact wpAny_Compare1 (Cj ha hb I h fun v u s2 x y H2 I2 rx ry q=>ho pins s2 σ H2 x y v u Q I2 rx ry q) hm
def Cu (t:TE):TT:=fun σ H Q=>t σ H fun x H'=>∃k,x=.bl k/\Q k H'
theorem we {op:CmpOp}{r:R2}(ho:cu X (compareOp op) r)(ha:PE X a ta)(hb:PE X b tb)(hm:behindInMarks op b=false):PT X (.Compare a [op] [b] pos) (Cu (yR r ta tb)):=by
 intro pins s σ H Q I h
 refine wpAny_isTrue_Compare1 (bp (ha pins s σ H _ I h) fun v s1 ⟨x,H1,I1,r1,q1⟩=>bp (hb pins s1 σ H1 _ I1 q1) fun u s2 ⟨y,H2,I2,r2,q2⟩=>
  bp (ho pins s2 σ H2 x y v u _ I2 r1 r2 q2) fun c s3 ⟨z,H3,I3,r3,k,e,q3⟩=>?_) hm
 subst e
 cases r3
 exact tqp ⟨H3,I3,q3⟩
def uq (r r':R2)(ta tb tc:TE):TE:=fun σ H Q=>ta σ H fun x H1=>tb σ H1 fun y H2=>r x y H2 fun z H3=>∃k,z=.bl k/\
 (if k=true then tc σ H3 fun w' H4=>r' y w' H4 Q else Q (.bl false) H3)
theorem Bm {op op':CmpOp}{r r':R2}(ho:cu X (compareOp op) r)(ho':cu X (compareOp op') r')(ha:PE X a ta)(hb:PE X b tb)(hc:PE X c tc)
 (hm:lastMarks [op,op'] [b,c]=false:=by with_unfolding_all rfl):PE X (.Compare a [op,op'] [b,c] pos) (uq r r' ta tb tc):=by
 intro pins s σ H Q I h
 refine Compare_chain (bp (ha pins s σ H _ I h) fun v s1 ⟨x,H1,I1,r1,q1⟩=>chain_link (bp (hb pins s1 σ H1 _ I1 q1) fun u s2 ⟨y,H2,I2,r2,q2⟩=>
  bp (ho pins s2 σ H2 x y v u _ I2 r1 r2 q2) fun d s3 ⟨z,H3,I3,r3,k,e,q3⟩=>?_)) hm
 subst e
 cases r3
 refine tqp ?_
 cases k with
 |false=>exact ite_ff ⟨.bl false,H3,I3,rfl,q3⟩
 |true=>exact ite_tt (chain_last (bp (hc pins s3 σ H3 _ I3 q3) fun w' s4 ⟨z',H4,I4,r4,q4⟩=>ho' pins s4 σ H4 y z' u w' Q I4 r2 r4 q4))
theorem Bi {op op':CmpOp}{r r':R2}(ho:cu X (compareOp op) r)(ho':cu X (compareOp op') r')(ha:PE X a ta)(hb:PE X b tb)(hc:PE X c tc)
 (hm:lastMarks [op,op'] [b,c]=false:=by with_unfolding_all rfl):PT X (.Compare a [op,op'] [b,c] pos) (Cu (uq r r' ta tb tc)):=by
 intro pins s σ H Q I h
 refine isTrue_chain (bp (ha pins s σ H _ I h) fun v s1 ⟨x,H1,I1,r1,q1⟩=>test_link (bp (hb pins s1 σ H1 _ I1 q1) fun u s2 ⟨y,H2,I2,r2,q2⟩=>
  bp (ho pins s2 σ H2 x y v u _ I2 r1 r2 q2) fun d s3 ⟨z,H3,I3,r3,k,e,q3⟩=>?_)) hm
 subst e
 cases r3
 refine tqp ?_
 cases k with
 | false =>
   obtain ⟨k',e',q'⟩:=q3
   cases e'
   exact ite_ff ⟨H3,I3,q'⟩
 | true =>
   refine ite_tt (test_last (bp (hc pins s3 σ H3 _ I3 q3) fun w' s4 ⟨z',H4,I4,r4,q4⟩=>bp (ho' pins s4 σ H4 y z' u w' _ I4 r2 r4 q4) fun d' s5 ⟨z2,H5,I5,r5,k2,e2,q5⟩=>?_))
   subst e2
   cases r5
   exact tqp ⟨H5,I5,q5⟩
def Cn (K:PySem.W.Frag)(x:V)(H:Hp)(k:Bool):Prop:=
 match x with
 |.non=>k=false
 |.bl b=>k=b
 |.int i=>k=(i != 0)
 |.str y=>y.length<=sizeLine/\k=((y.length:Int) != 0)
 |.byt y=>y.size<=sizeLine/\k=((y.size:Int) != 0)
 |.ref p=>(∃xs,dg K H p xs/\k=!xs.isEmpty)\/(∃xs,d8 K H p xs/\k=!xs.isEmpty)\/∃kvs,H p=some (.dK kvs)/\k=!kvs.isEmpty
 |_=>False
theorem yc {κ:Type}{kvs:List (κ×V)}{vs:List (κ×Value)}(r:KV kvs vs):(!vs.isEmpty)=!kvs.isEmpty:=by
 cases r<;>rfl
theorem qy {xs:List V}{its:List Value}(r:Vals xs its):(!its.toArray.isEmpty)=!xs.isEmpty:=by
 cases r<;>simp
theorem kZ:(sizeLine:Nat)<2^63:=by rw [sizeLine_eq];decide
theorem Fg:Mh X (fun x H Q=>∃k,Cn X.K x H k/\Q k H):=by
 intro pins s σ H x v Q I rx h
 obtain ⟨k,e,q⟩:=h
 have hl:=kZ
 have hs:sizeLine=16777216:=sizeLine_eq
 cases x with
 | non =>
   cases rx
   have e':k=false:=e
   subst e'
   exact truthy_none ⟨H,I,q⟩
 | bl b =>
   cases rx
   have e':k=b:=e
   subst e'
   exact tqp ⟨H,I,q⟩
 | int i =>
   obtain ⟨t,rfl⟩:=rx
   have e':k=(i != 0):=e
   subst e'
   exact PySem.P.truthy_int ⟨H,I,q⟩
 | str y =>
   obtain ⟨t,rfl⟩:=rx
   obtain ⟨hy,e'⟩:y.length<=sizeLine/\k=((y.length:Int) != 0):=e
   subst e'
   exact PySem.P.truthy_str (by omega) ⟨H,I.tok _,q⟩
 | byt y =>
   obtain ⟨t,rfl⟩:=rx
   obtain ⟨hy,e'⟩:y.size<=sizeLine/\k=((y.size:Int) != 0):=e
   subst e'
   exact PySem.W.truthy_bytes (by omega) ⟨H,I.tok _,q⟩
 | ref p =>
   cases rx
   have e':(∃xs,dg X.K H p xs/\k=!xs.isEmpty)\/(∃xs,d8 X.K H p xs/\k=!xs.isEmpty)\/∃kvs,H p=some (.dK kvs)/\k=!kvs.isEmpty:=e
   rcases e' with ⟨xs,hx,e'⟩|⟨xs,hx,e'⟩|⟨kvs,hx,e'⟩
   ·subst e'
    obtain ⟨its,r,pl,hz⟩:=I.list hx
    have hlen:=r.length
    exact wpAny_truthy_list pl.isList (by simp only [List.size_toArray];omega) ⟨H,I.tok _,by rw [qy r];exact q⟩
   ·subst e'
    obtain ⟨its,r,pl,hz⟩:=I.tuple hx
    have hlen:=r.length
    exact truthy_tuple pl (by simp only [List.size_toArray];omega) ⟨H,I.tok _,by rw [qy r];exact q⟩
   ·subst e'
    obtain ⟨hz,hS,vs,r,m⟩:kvs.length<=sizeLine/\(p==sysModules)=false/\∃vs,KV kvs vs/\s.heap.DictOf (lX X.prog X.w) p vs:=I.hok p _ hx
    have hlen:kvs.length=vs.length:=Paired.length r
    exact wpAny_truthy_dict hS m (by omega) ⟨H,I.tok _,by rw [yc r];exact q⟩
 |_=>exact (show False from e).elim
theorem Bh (ha:PE X a ta)(he:∀whole,isTrue a X.env whole=(do let v <- whole;standAt a.pos;holding [v] (truthy v))) :
 PT X a (fun σ H Q=>ta σ H fun x H'=>∃k,Cn X.K x H' k/\Q k H'):=by
 intro pins s σ H Q I h
 exact isTrue_plain (bp (ha pins s σ H _ I h) fun v s1 ⟨x,H1,I1,r1,q1⟩=>Fg pins s1 σ H1 x v Q I1 r1 q1) (he _)
theorem xr:cu X (binaryOp .Add) (fun x y H Q=>∃i j,x=.str i/\y=.str j/\i.length+j.length<=sizeLine/\Q (.str (i++j)) H):=by
 intro pins s σ H x y v u Q I rx ry h
 obtain ⟨i,j,rfl,rfl,hz,q⟩:=h
 obtain ⟨t,rfl⟩:=rx
 obtain ⟨t',rfl⟩:=ry
 exact add_str (fun t' tk=>⟨.str (i++j),H,I.tok _,⟨_,rfl⟩,q⟩) hz
theorem vals1 {x:V}{us:List Value}(r:Vals [x] us):∃u,us=[u]/\RelV x u:=by
 cases r with
 |cons r1 r2=>cases r2;exact ⟨_,rfl,r1⟩
theorem vals2 {x y:V}{us:List Value}(r:Vals [x,y] us):∃u w',us=[u,w']/\RelV x u/\RelV y w':=by
 cases r with
 | cons r1 r2 =>
   cases r2 with
   |cons r3 r4=>cases r4;exact ⟨_,_,rfl,r1,r3⟩
end
end L2
namespace L2
open PySem PySem.Spec PyProof.Rows
structure Cq (h:Heap) (x dx C:Addr) (mA:Str->Option Value):Prop where
 obj:h.get? x=some (PySem.W.instObj C dx)
 ns:h.Ns1 dx mA
 ne:dx≠x
theorem sO {h:Heap}{dx:Addr}{mA:Str->Option Value}(n:h.Ns1 dx mA):∃od,h.get? dx=some od/\∀name,PySem.W.lookIn name od=some (mA name):=by
 obtain ⟨o,es,ep,ho,hd,hk,_,hm⟩:=n
 refine ⟨o,ho,fun name=>?_⟩
 have e:=hm name
 unfold nsFind findBy at e
 rw [<- Array.find?_toList] at e
 unfold PySem.W.lookIn
 rw [hd]
 dsimp only
 split
 ·rename_i y q
  rw [q] at e
  exact congrArg some e
 ·rename_i q
  rw [q] at e
  have a:es.toList.any (·.refKey)=false:=by
   rw [List.any_eq_false]
   intro y hy
   obtain ⟨z,t,hkey⟩:=hk y (Array.mem_toList_iff.mp hy)
   simp [DictEntry.refKey,hkey]
  have a':¬ es.toList.any (·.refKey)=true:=by rw [a];exact tqj
  rw [if_neg a']
  exact congrArg some e
theorem Cq.look {h:Heap}{x dx C:Addr}{mA:Str->Option Value}(I:Cq h x dx C mA):∃od,PySem.W.InstAt h x (PySem.W.instObj C dx) C (some od)/\∀name,PySem.W.lookIn name od=some (mA name):=
 let ⟨od,ho,hl⟩:=sO I.ns
 ⟨od,⟨I.obj,rfl,rfl,ho⟩,hl⟩
theorem sd.some_of {v:V}{o:Option Value}(r:sd (some v) o):∃u,o=some u/\RelV v u:=by
 cases o with
 |none=>exact (show False from r).elim
 |some u=>exact ⟨u,rfl,r⟩
section
variable {P:Program}{w:World}{H H':Hp}{h h':Heap}{a C dx:Addr}{fs fs':List (Str×V)}
theorem Ep (hok:fb P w H h)(e:H a=some (.ins C dx fs)):∃mA,Cq h a dx C mA/\(∀f,sd (fs.lookup f) (mA f))/\PySem.Within mA (fs.map (·.1))/\fs.length<=1000/\H dx=some (.own a):=by
 obtain ⟨d,z,ne,ob,mA,n,r,q⟩:=(show di P w H h a (.ins C dx fs) from hok a _ e)
 exact ⟨mA,⟨ob,n,ne⟩,r,q,z,d⟩
end
structure II (K:PySem.W.Frag) (C:Addr):Prop where
 pg:PySem.W.plainGet K C Str.empty=true
 hd:PySem.W.hasDictIn K C=true
 po:PySem.W.plainOver K C=true
 sa:PySem.W.findIn K (.ref C) "__setattr__"=some (some (.builtin "object.__setattr__"))
theorem II.get {K:PySem.W.Frag}{C:Addr}(c:II K C)(f:Str):PySem.W.plainGet K C f=true:=c.pg
section
variable {X:Cx}{pins:List (Addr×Obj)}{σ:St}{H:Hp}{s:Shared}{a C dx:Addr}{fs:List (Str×V)}{f:Str}{v:V}{A:Around}{E:Value->Shared->Prop}
theorem E2 {prog:Program}{w:World}{env:Env}{e:Expr}{f:Str}{pos:Pos}{s:Shared}{Q:Value->Shared->Prop}(hb:attributeBase e f env (eval e env)=eval e env)
 (h:wpAny (model prog w) A (eval e env) (fun o s₁=>wpAny (model prog w) A (getAttr o f true) Q E s₁) E s):wpAny (model prog w) A (eval (.Attribute e f pos) env) Q E s:=
 Attribute_any_ h (by rw [arm_eval_Attribute,hb])
end
section
variable {X:Cx}{pins:List (Addr×Obj)}{σ:St}{H:Hp}{s:Shared}{A:Around}{E:Value->Shared->Prop}{Q:Value->Shared->Prop}{c:Value}{b:Bool}
inductive jV (K:PySem.W.Frag) (H:Hp):V->Value->Prop where
 |non:jV K H .non (.type "NoneType")
 |bl (x:Bool):jV K H (.bl x) (.type "bool")
 |int (i:Int):jV K H (.int i) (.type "int")
 |str (x:Str):jV K H (.str x) (.type "str")
 |flt (x:UInt64):jV K H (.flt x) (.type "float")
 |lst {a:Addr}{xs:List V} (e:H a=some (.lst xs)):jV K H (.ref a) (.type "list")
 |frz {a:Addr}{o:Obj}{xs:List V} (e:H a=some (.frz o (.lst xs))):jV K H (.ref a) (.type "list")
 |tup {a:Addr}{xs:List V} (e:H a=some (.tup xs)):jV K H (.ref a) (.type "tuple")
 |dK {a:Addr}{kvs:List (Key×V)} (e:H a=some (.dK kvs)):jV K H (.ref a) (.type "dict")
 |dT {a:Addr}{kvs:List (List Key×V)} (e:H a=some (.dT kvs)):jV K H (.ref a) (.type "dict")
 |ins {a C dx:Addr}{fs:List (Str×V)} (e:H a=some (.ins C dx fs)) (cl:II K C) (ha:PySem.W.findIn K (.ref C) "__class__"=some (some (.builtin "object.__class__")))
  (hn:PySem.W.specialIn K (.builtin "object.__class__") "__get__"=some (some (.builtin "getset_descriptor.__get__"))) (htk:PySem.W.takesIn K (.builtin "object.__class__")=some true)
  (hm:PySem.W.mroIn K C (.type "object")=some true):jV K H (.ref a) (.ref C)
theorem lC {x:V}{u t:Value}(I:Inv X pins σ H s)(rx:RelV x u)(ty:jV X.K H x t)(e:PySem.W.kitOne X.K t c=some b)(h:∀tk,Q (.bool b) {s with toks:=tk}) :
 wpAny (model X.prog X.w) A (call (.builtin "isinstance") [u,c]) Q E s:=by
 cases ty with
 |non=>cases (show u=Value.none from rx);exact PySem.W.kia_one PySem.W.kitx_none I.kIn True.intro e (fun z=>nomatch z) h
 |bl y=>cases (show u=Value.bool y from rx);exact PySem.W.kia_one PySem.W.kitx_bool I.kIn True.intro e (fun z=>nomatch z) h
 |int i=>obtain ⟨t,q⟩:=(show ∃t,u=Value.int i t from rx);cases q;exact PySem.W.kia_one PySem.W.kitx_int I.kIn True.intro e (fun z=>nomatch z) h
 |str y=>obtain ⟨t,q⟩:=(show ∃t,u=Value.str y t from rx);cases q;exact PySem.W.kia_one PySem.W.kitx_str I.kIn True.intro e (fun z=>nomatch z) h
 |flt y=>obtain ⟨t,q⟩:=(show ∃t,u=Value.float y t from rx);cases q;exact PySem.W.kia_one PySem.W.kitx_float I.kIn True.intro e (fun z=>nomatch z) h
 | @lst a xs ea =>
   cases (show u=Value.ref a from rx)
   obtain ⟨_,_,n,_,h1⟩:=(show di X.prog X.w H s.heap a (.lst xs) from I.hok a _ ea)
   exact PySem.W.kia_one PySem.W.kitx_list I.kIn ⟨_,h1,rfl⟩ e (fun z=>nomatch z) h
 | @frz a ob xs ea =>
   cases (show u=Value.ref a from rx)
   obtain ⟨_,_,_,n,_,h1⟩:=(show di X.prog X.w H s.heap a (.frz ob (.lst xs)) from I.hok a _ ea)
   exact PySem.W.kia_one PySem.W.kitx_list I.kIn ⟨_,h1,rfl⟩ e (fun z=>nomatch z) h
 | @tup a xs ea =>
   cases (show u=Value.ref a from rx)
   obtain ⟨_,_,_,p⟩:=(show di X.prog X.w H s.heap a (.tup xs) from I.hok a _ ea)
   obtain ⟨o,h1,h2,_⟩:=p
   exact PySem.W.kia_one PySem.W.kitx_tuple I.kIn ⟨o,h1,h2⟩ e (fun z=>nomatch z) h
 | @dK a kvs ea =>
   cases (show u=Value.ref a from rx)
   obtain ⟨_,_,vs,_,p⟩:=(show di X.prog X.w H s.heap a (.dK kvs) from I.hok a _ ea)
   obtain ⟨o,es,ep,h1,h2,_⟩:=p
   exact PySem.W.kia_one PySem.W.kitx_dict I.kIn ⟨o,h1,h2.1⟩ e (fun z=>nomatch z) h
 | @dT a kvs ea =>
   cases (show u=Value.ref a from rx)
   obtain ⟨_,_,xs,_,o,es,ep,h1,h2,_⟩:=(show di X.prog X.w H s.heap a (.dT kvs) from I.hok a _ ea)
   exact PySem.W.kia_one PySem.W.kitx_dict I.kIn ⟨o,h1,h2.1⟩ e (fun z=>nomatch z) h
 | @ins a C dx fs ea cl ha hn htk hm =>
   cases (show u=Value.ref a from rx)
   obtain ⟨mA,O,_⟩:=Ep I.hok ea
   obtain ⟨od,J,_⟩:=O.look
   exact PySem.W.kia_one (PySem.W.kitx_own (cl.get _) cl.hd ha hn htk hm) I.kIn J e (fun z=>nomatch z) h
end
end L2
namespace L2
open PySem PySem.Spec PyProof.Rows
structure cy (k:Nat) (A:Around):Prop where
 hd:A.handled=none
 dp:A.depth+3*k+5<recursionLimit
 un:A.units+16*k+200<cLine
 gd:A.guards=some []
theorem cy.mono {j k:Nat}{A:Around}(r:cy k A)(h:j<=k):cy j A:=⟨r.hd,by have:=r.dp;omega,by have:=r.un;omega,r.gd⟩
theorem cy.deeper {k:Nat}{A:Around}(r:cy (k+1) A)(env:Env):cy k (A.deeper env):=
 ⟨r.hd,by have:=r.dp;show A.depth+1+3*k+5<_;omega,by have:=r.un;show A.units+3+16*k+200<_;omega,r.gd⟩
theorem xP {A:Around}{C:Addr}{us:List Value}{kw:List (Str×Value)}:(A.under (.builtin "type.__call__" ⟨.ref C::us,kw⟩)).depth=A.depth+1:=by
 first|rfl|simp [Around.under,Code.weight,Code.isCreation,Code.isGuard,Code.isCaller,Code.frames,Code.isFrame,guardIds]
theorem xO {A:Around}{C:Addr}{us:List Value}{kw:List (Str×Value)}:(A.under (.builtin "type.__call__" ⟨.ref C::us,kw⟩)).units=A.units+1:=by
 first|rfl|simp [Around.under,Code.cUnits,Code.frames,Code.isFrame]
theorem cy.make {k:Nat}{A:Around}(r:cy (k+1) A)(C:Addr)(us:List Value)(kw:List (Str×Value)):cy k (A.under (.builtin "type.__call__" ⟨.ref C::us,kw⟩)):=
 ⟨r.hd,by have:=r.dp;rw [xP];omega,by have:=r.un;rw [xO];omega,r.gd⟩
theorem cy.depth {k:Nat}{A:Around}(r:cy k A):A.depth<recursionLimit:=by have:=r.dp;omega
theorem cy.units {k:Nat}{A:Around}(r:cy k A):A.units+64<cLine:=by have:=r.un;omega
def KP:TA:=fun _ H Q=>Q [] H
def IX (ta:TE)(tr:TA):TA:=fun σ H Q=>ta σ H fun x H1=>tr σ H1 fun xs H2=>Q (x::xs) H2
section
variable {X:Cx}{e:Expr}{es:List Expr}{te:TE}{t:TA}{pos:Pos}
theorem eh:PA X [] KP:=fun _ _ _ _ H Q I h=>Calls.spliced_nil ⟨[],H,I,.nil,h⟩
theorem cp (ha:PE X e te)(hr:PA X es t)(hs:starEach (e::es) X.env=(false,eval e X.env)::starEach es X.env:=by rfl):PA X (e::es) (IX te t):=by
 intro pos pins s σ H Q I h
 rw [hs]
 show wpAny _ _ (spliced ((false,eval e X.env)::backTo pos (starEach es X.env))) _ _ s
 refine Calls.spliced_cons (bp (ha pins s σ H _ I h) fun u s1 ⟨x,H1,I1,r1,q1⟩=>?_)
 exact bp (hr pos pins s1 σ H1 _ I1 q1) fun us s2 ⟨xs,H2,I2,r2,q2⟩=>⟨x::xs,H2,I2,.cons r1 r2,q2⟩
def KJ (t:TA):TE:=fun σ H Q=>t σ H fun xs H1=>xs.length<=sizeLine/\∀p,H1 p=none->Q (.ref p) (upd H1 p (.tup xs))
def KQ (t:TA):TE:=fun σ H Q=>t σ H fun xs H1=>xs.length<=sizeLine/\∀p,H1 p=none->Q (.ref p) (upd H1 p (.lst xs))
theorem Gd {x1}(h:PA X es t):PE X (.Tuple es x1 pos) (KJ t):=by
 intro pins s σ H Q I hq
 refine wpAny_Tuple_spliced (bp (h pos pins s σ H _ I hq) fun us s1 ⟨xs,H1,I1,r,z,q⟩=>⟨by rw [<- r.length];exact z,?_⟩)
 have hf:H1 s1.heap.objs.size=none:=I1.hok.fresh (tqg _)
 refine ⟨.ref s1.heap.objs.size,upd H1 s1.heap.objs.size (.tup xs),I1.laid (t':=s1.toks) (fun b u e=>tqc _ e) (tqg _) ?_,rfl,q _ hf⟩
 exact ⟨z,us,r,⟨_,tqe _ rfl,rfl,_,rfl⟩⟩
theorem Gj (h:PA X es t):PE X (.List es pos) (KQ t):=by
 intro pins s σ H Q I hq
 refine wpAny_List_spliced (bp (h pos pins s σ H _ I hq) fun us s1 ⟨xs,H1,I1,r,z,q⟩=>⟨by rw [<- r.length];exact z,?_⟩)
 have hf:H1 s1.heap.objs.size=none:=I1.hok.fresh (tqg _)
 refine ⟨.ref s1.heap.objs.size,upd H1 s1.heap.objs.size (.lst xs),I1.laid (t':=s1.toks) (fun b u e=>tqc _ e) (tqg _) ?_,rfl,q _ hf⟩
 exact ⟨z,us,0,r,tqe _ rfl⟩
end
abbrev Sp:=List V->Hp->VK->XK->Prop
abbrev oZ:=List Env->Hp->Shared->XK->Value->Shared->Prop
structure pP (P:Program) (w:World) (K:PySem.W.Frag) (mg:Str->Option Value) (base:Heap) (A:Around) (outer:List Env) (s:Shared) (H:Hp):Prop where
 frames:A.frames=some outer
 mod:Mod K mg base
 bs:∀b o,base.get? b=some o->s.heap.get? b=some o/\H b=none
 bsz:base.objs.size<=s.heap.objs.size
 funs:s.heap.FunFrames base outer
 frf:∀b∈gr outer,H b=none
 hok:fb P w H s.heap
 bare:AllBare s.gens
def CE (outer:List Env)(P:Program)(w:World)(H:Hp)(s:Shared)(Q:VK)(u:Value)(s':Shared):Prop:=
 ∃v H',s'.os=s.os/\AllBare s'.gens/\Un (gr outer) [] H H' s.heap s'.heap/\fb P w H' s'.heap/\RelV v u/\Q v H'
def CR (CX:oZ)(outer:List Env)(P:Program)(w:World)(H:Hp)(s:Shared)(Q:VK)(E:XK)(r:Result)(s':Shared):Prop:=
 match r with
 |.ok (.ret u)=>CE outer P w H s Q u s'
 |.ok _=>False
 |.error e=>CX outer H s E e s'
structure lR (P:Program) (w:World) (K:PySem.W.Frag) (mg:Str->Option Value) (base:Heap) (CX:oZ) (k:Nat) (f:Addr) (fd:FuncData) (ps:List Str) (sp:Sp):Prop where
 len:∀vs H Q E,sp vs H Q E->vs.length=ps.length
 run:∀(A:Around) (outer:List Env) (s:Shared) (H:Hp) (args:Args) (us:List Value) (vs:List V) (Q:VK) (E:XK),cy k A->pP P w K mg base A outer s H->BindsTo s fd args (ps.zip us)->Vals vs us->sp vs H Q E->
  codeAny (model P w) A (.call (.ref f) args) (CR CX outer P w H s Q E) s
theorem pP.make {P:Program}{w:World}{K:PySem.W.Frag}{mg:Str->Option Value}{base:Heap}{A:Around}{outer:List Env}{s:Shared}{H:Hp}(e:pP P w K mg base A outer s H)(C:Addr)(us:List Value)(kw:List (Str×Value)) :
 pP P w K mg base (A.under (.builtin "type.__call__" ⟨.ref C::us,kw⟩)) outer s H:=⟨by first|exact e.frames|(simpa [Around.under,Code.envs,Code.isFrame,pushEnvs] using e.frames),e.mod,e.bs,e.bsz,e.funs,e.frf,e.hok,e.bare⟩
section
variable {X:Cx}{pins:List (Addr×Obj)}{σ:St}{H:Hp}{s s':Shared}
theorem Inv.env0 (I:Inv X pins σ H s):pP X.prog X.w X.K X.mg X.base X.A X.stack s H:=
 ⟨I.ok.frames,I.ok.mod,I.bs,tqh I.ok.bsz I.sz,I.stack,I.stkFree,I.hok,I.bare⟩
theorem Inv.after {Q:VK}{u:Value}(I:Inv X pins σ H s)(h:CE X.stack X.prog X.w H s Q u s'):EP X pins σ Q u s':=by
 obtain ⟨v,H',os,bare,un,hok,r,q⟩:=h
 obtain ⟨hh,g,d,t,os'⟩:=s'
 obtain rfl:os'=s.os:=os
 exact ⟨v,H',I.call (h':=hh) (g':=g) (d':=d) (t':=t) (ch:=[]) un hok bare (fun b z=>absurd z (by simp)),r,q⟩
end
def Cy (sp:Sp)(dvs:List V)(E:XK)(t:TA):TE:=fun σ H Q=>t σ H fun vs H1=>sp (vs++dvs) H1 Q E
def Binds (K:PySem.W.Frag)(fd:FuncData)(ps:List Str)(ds:List Value):Prop:=
 ∀(s:Shared) (us:List Value),K.In s.heap->(us++ds).length=ps.length->BindsTo s fd ⟨us,[]⟩ (ps.zip (us++ds))
theorem Binds.all {K:PySem.W.Frag}{fd:FuncData}{ps:List Str}(h:∀us:List Value,us.length=ps.length->bindArgs fd ⟨us,[]⟩=pure (ps.zip us)):Binds K fd ps []:=fun s us _ hl=>by
 rw [List.append_nil] at hl ⊢
 exact .of_eq (h us hl)
def Passes (CX:oZ)(X:Cx)(E:XK):Prop:=∀(pins:List (Addr×Obj)) (σ:St) (H:Hp) (s:Shared) (e:Value) (s':Shared),Inv X pins σ H s->CX X.stack H s E e s'->X.xe e s'
section
variable {X:Cx}{CX:oZ}{k:Nat}{f C:Addr}{fd:FuncData}{ps:List Str}{sp:Sp}{dvs:List V}{ds:List Value}{E:XK}{x m:Str}{p pos apos:Pos}{e o:Expr}{es:List Expr}{ta:TE}{t:TA}
theorem zf {pins:List (Addr×Obj)}{σ:St}{H:Hp}{s:Shared}{Q:VK}{us:List Value}{vs:List V}(F:lR X.prog X.w X.K X.mg X.base CX k f fd ps sp)(hr:cy k X.A)(hb:Binds X.K fd ps ds)(hd:Vals dvs ds)(hx:Passes CX X E)
 (I:Inv X pins σ H s) (r:Vals vs us) (h:sp (vs++dvs) H Q E):wpAny (model X.prog X.w) X.A (call (.ref f) us) (EP X pins σ Q) X.xe s:=by
 have r2:Vals (vs++dvs) (us++ds):=r.append hd
 have hl:(us++ds).length=ps.length:=by rw [<- r2.length];exact F.len _ _ _ _ h
 refine wpAny_call (codeAny_mono (F.run X.A X.stack s H ⟨us,[]⟩ (us++ds) (vs++dvs) Q E hr I.env0 (hb s us I.kIn hl) r2 h) fun r s' hq=>?_)
 cases r with
 |error e=>exact hx pins σ H s e s' I hq
 | ok fl =>
   cases fl with
   |ret u=>exact I.after hq
   |next=>exact False.elim hq
   |brk=>exact False.elim hq
   |cont=>exact False.elim hq
theorem D4 (F:lR X.prog X.w X.K X.mg X.base CX k f fd ps sp)(hr:cy k X.A)(hg:Gl X x)(hm:X.mg x=some (.ref f))(hk:PySem.W.keepIn X.K (.ref f)=true)(hb:Binds X.K fd ps ds)(hd:Vals dvs ds)(hx:Passes CX X E)
 (ha:PA X (e::es) t) (hdb:(x==("__debug__":Str))=false:=by decide) (he:starEach (e::es) X.env=(false,eval e X.env)::starEach es X.env:=by rfl) (hpl:(backTo pos (starEach es X.env)).any (·.1)=false:=by rfl) :
 PE X (.Call (.Name x p) (e::es) [] pos) (Cy sp dvs E t):=by
 intro pins s σ H Q I h
 refine wpAny_Call_Name_kw (jq I hg hm ?_ hdb)
 refine PySem.W.callWith_K (h₀:=X.base) I.ok.mod.kin hk (bp (ha pos pins s σ H _ I h) fun us s1 ⟨vs,H1,I1,r,q⟩=>⟨I1.kIn,?_⟩) he hpl
 exact zf F hr hb hd hx I1 r q
end
structure gP (N P:List Str) (sc:Scope):Prop where
 kind:sc.kind=.function
 co:sc.isCoroutine=false
 gen:sc.isGenerator=false
 nd:N.Nodup
 pre:N.take P.length=P
 par:∀x∈P,sc.names.lookup x=some .local\/sc.names.lookup x=some .cell
 nofree:∀y∈sc.names,y.2≠.free
theorem s8 {kindOf:Str->Option NameKind}{x:Str}:∀{binds:List (Str×Value)}{m:Str->Option Value},(∀v,(x,v)∉binds)->bindL kindOf binds m x=m x
 |[],_,_=>rfl
 | (n, v) :: r, m, h => by
   unfold bindL
   rw [s8 fun w hw=>h w (List.mem_cons_of_mem _ hw)]
   split
   ·have:x≠n:=by rintro rfl;exact h v List.mem_cons_self
    simp [this]
   ·rfl
theorem td {kindOf:Str->Option NameKind}{x:Str}:∀{binds:List (Str×Value)}{m:Str->Option Value},(∀v,(x,v)∉binds)->bindC kindOf binds m x=m x
 |[],_,_=>rfl
 | (n, v) :: r, m, h => by
   unfold bindC
   rw [td fun w hw=>h w (List.mem_cons_of_mem _ hw)]
   split
   ·rfl
   ·have:x≠n:=by rintro rfl;exact h v List.mem_cons_self
    simp [this]
theorem s9 {kindOf:Str->Option NameKind}{x:Str}{v:Value}:∀{P:List Str}{vs:List Value}{i:Nat}{m:Str->Option Value},P.Nodup->P[i]?=some x->vs[i]?=some v->kindOf x=some .local->
 bindL kindOf (P.zip vs) m x=some v
 |[],_,_,_,_,h,_,_=>by simp at h
 |_::_,[],_,_,_,_,h,_=>by simp at h
 | p :: P, w :: vs, 0, m, nd, h1, h2, hk => by
   simp at h1 h2;subst h1;subst h2
   show bindL kindOf ((p,w)::P.zip vs) m p=_
   unfold bindL
   rw [s8 fun v hv=>(List.nodup_cons.mp nd).1 (List.of_mem_zip hv).1,if_pos hk]
   simp
 | p :: P, w :: vs, i + 1, m, nd, h1, h2, hk => by
   show bindL kindOf ((p,w)::P.zip vs) m x=_
   unfold bindL
   exact s9 (i:=i) (List.nodup_cons.mp nd).2 (by simpa using h1) (by simpa using h2) hk
theorem tf {kindOf:Str->Option NameKind}{x:Str}{v:Value}:∀{P:List Str}{vs:List Value}{i:Nat}{m:Str->Option Value},P.Nodup->P[i]?=some x->vs[i]?=some v->kindOf x≠some .local->
 bindC kindOf (P.zip vs) m x=some v
 |[],_,_,_,_,h,_,_=>by simp at h
 |_::_,[],_,_,_,_,h,_=>by simp at h
 | p :: P, w :: vs, 0, m, nd, h1, h2, hk => by
   simp at h1 h2;subst h1;subst h2
   show bindC kindOf ((p,w)::P.zip vs) m p=_
   unfold bindC
   rw [td fun v hv=>(List.nodup_cons.mp nd).1 (List.of_mem_zip hv).1,if_neg hk]
   simp
 | p :: P, w :: vs, i + 1, m, nd, h1, h2, hk => by
   show bindC kindOf ((p,w)::P.zip vs) m x=_
   unfold bindC
   exact tf (i:=i) (List.nodup_cons.mp nd).2 (by simpa using h1) (by simpa using h2) hk
def start (N:List Str)(vs:List V):St:=vs.map some++List.replicate (N.length-vs.length) none
def fX (CX:oZ)(P:Program)(w:World)(K:PySem.W.Frag)(mg:Str->Option Value)(base:Heap)(N:List Str)(qual:Str)(scope:Scope)(f:Addr)(cd:Value)(A:Around)(outer:List Env)(s:Shared)(H:Hp)(E:XK):Cx where
 prog:=P
 w:=w
 K:=K
 mg:=mg
 base:=base
 A:=A.deeper (envOfC qual scope s.heap.objs.size f cd)
 N:=N
 s₀:=s
 H₀:=H
 env:=envOfC qual scope s.heap.objs.size f cd
 outer:=outer
 stack:=envOfC qual scope s.heap.objs.size f cd::outer
 ex:=[]
 calm:=true
 fn:=fun _=>true
 pn:=[]
 xe:=fun e s'=>wpAny (model P w) (A.deeper (envOfC qual scope s.heap.objs.size f cd)) (leaving (envOfC qual scope s.heap.objs.size f cd) e) (fun _ s''=>CX outer H s E e s'') (fun e' s''=>CX outer H s E e' s'') s'
theorem vq {sc:Scope}{n:Nat}{x:Str}(h:sc.names.lookup x=some .cell):∃c,(cellsFrom n sc.names []).lookup x=some c:=by
 have q:=PySem.W.cellsFrom_some sc.names n [] (.inl h)
 exact Option.isSome_iff_exists.mp q
theorem zS {CX:oZ}{P:Program}{w:World}{K:PySem.W.Frag}{mg:Str->Option Value}{base:Heap}{N ps:List Str}{qual:Str}{scope:Scope}{f:Addr}{cd:Value}{A:Around}{outer:List Env}{s s1:Shared}{H:Hp}{E:XK}{us:List Value}{vs:List V}
 (S:gP N ps scope) (hd:A.handled=none) (e0:pP P w K mg base A outer s H) (hl:vs.length=ps.length) (r:Vals vs us)
 (x:InCallC s s.heap.objs.size (bindL (envOfC qual scope s.heap.objs.size f cd).kindOf (ps.zip us) fun _=>none) (cellsFrom (s.heap.objs.size+1) scope.names []) (bindC (envOfC qual scope s.heap.objs.size f cd).kindOf (ps.zip us) fun _=>none) s1) :
 Inv (fX CX P w K mg base N qual scope f cd A outer s H E) [] (start N vs) H s1:=by
 have hpl:ps.length<=N.length:=by have:=congrArg List.length S.pre;rw [List.length_take] at this;omega
 obtain ⟨h1,tk,rfl,hk⟩:=x.done
 have noA:∀b:Addr,b∉(fX CX P w K mg base N qual scope f cd A outer s H E).ex:=fun b z=>absurd (show b∈([]:List Addr) from z) (by simp)
 refine ⟨⟨e0.mod,S.kind,rfl,rfl,tqg _,fun y z c h1 h2=>?_,fun y hy=>?_,fun y c _ h=>?_,fun _=>hd,Around.frames_deeper e0.frames,.inr ⟨rfl,rfl⟩,fun b z=>absurd z (noA b),e0.bs,e0.bsz,fun b _ _=>noA b,fun b z=>absurd z (noA b),e0.funs,e0.frf⟩,
  rfl,e0.bare,Un.kept hk,⟨_,x.toInCall.ns,fun i y v h1 h2 h3=>?_⟩,fun y c h=>⟨_,x.cell y c h⟩,e0.hok.fresh (tqg _),fun y c h=>?_,fun p hp=>absurd (show p∈([]:List (Addr×Obj)) from hp) (by simp),e0.hok.kept hk,?_⟩
 ·exact name_of_addr x.apart (PySem.mem_of_lookup h1) (PySem.mem_of_lookup h2)
 ·have hy:scope.names.lookup y=some .cell\/scope.names.lookup y=some .free:=hy
  rcases hy with hy|hy
  ·exact vq hy
  ·exact absurd rfl (S.nofree _ (PySem.mem_of_lookup hy))
 ·exact Nat.le_of_lt (x.above y c (PySem.mem_of_lookup h))
 ·have hi:i<vs.length:=by
   unfold start at h2
   by_cases hi:i<vs.length
   ·exact hi
   ·rw [List.getElem?_append_right (by simpa using hi)] at h2
    rw [List.getElem?_replicate] at h2
    split at h2<;>cases h2
  have ha:vs[i]?=some v:=by
   unfold start at h2
   rw [List.getElem?_append_left (by simpa using hi),List.getElem?_map] at h2
   cases e:vs[i]? with
   |none=>rw [e] at h2;cases h2
   |some a=>rw [e] at h2;cases h2;rfl
  obtain ⟨u,hu,rv⟩:=r.get ha
  have hp:ps[i]?=some y:=by
   rw [<- S.pre,List.getElem?_take_of_lt (by omega)];exact h1
  have ndP:ps.Nodup:=by rw [<- S.pre];exact S.nd.sublist (List.take_sublist _ _)
  refine ⟨u,rv,?_⟩
  rcases S.par y (List.mem_of_getElem? hp) with k|k
  ·exact .inl ⟨k,s9 ndP hp hu k⟩
  ·obtain ⟨c,e⟩:=vq (n:=s.heap.objs.size+1) k
   refine .inr ⟨.inl k,c,e,?_⟩
   have q:=x.cell y c e
   rw [tf ndP hp hu (by show scope.names.lookup y≠_;rw [k];decide)] at q
   exact q
 ·exact e0.hok.fresh (Nat.le_of_lt (x.above y c (PySem.mem_of_lookup h)))
 ·unfold start
  show _=N.length
  rw [List.length_append,List.length_map,List.length_replicate]
  omega
theorem JD {CX:oZ}{P:Program}{w:World}{K:PySem.W.Frag}{mg:Str->Option Value}{base:Heap}{k:Nat}{f:Addr}{name qual:Str}{params:Arguments}{body:List Stmt}{scope:Scope}{dV kV doc pm cdv ct oc:Value}{an od:Option Addr}
 {osl:Array (Option Value)}{N ps:List Str}{sp:Sp} (lk:K.lookup f=some ⟨oc,od,.func (PySem.W.fnOf name qual params body scope dV kV doc pm an cdv ct),osl⟩) (hcd:PySem.W.codeIn K cdv qual=true) (S:gP N ps scope)
 (len:∀vs H Q E,sp vs H Q E->vs.length=ps.length)
 (hbody:∀(A:Around) (outer:List Env) (s:Shared) (H:Hp) (vs:List V) (Q:VK) (E:XK),cy k (A.deeper (envOfC qual scope s.heap.objs.size f cdv))->sp vs H Q E->
  ∃t,n5 (fX CX P w K mg base N qual scope f cdv A outer s H E) body t/\t {nx:=fun _ H'=>Q .non H',rt:=Q} (start N vs) H) :
 lR P w K mg base CX (k+1) f (PySem.W.fnOf name qual params body scope dV kV doc pm an cdv ct) ps sp:=by
 refine ⟨len,fun A outer s H args us vs Q E hr e0 hb r hsp=>?_⟩
 have hl:=len _ _ _ _ hsp
 have KX:K.In s.heap:=e0.mod.kin.keeps fun b o e=>(e0.bs b o e).1
 have lim:s.heap.NoLimit:=e0.mod.nolimit.keeps fun b o e=>(e0.bs b o e).1
 have hkind:∀y∈ps.zip us,scope.names.lookup y.1=some .local\/(scope.names.lookup y.1=some .cell/\((cellsFrom (s.heap.objs.size+1) scope.names []).lookup y.1).isSome=true):=fun ⟨n,v⟩ hy=>by
  rcases S.par n (List.of_mem_zip hy).1 with q|q
  ·exact .inl q
  ·exact .inr ⟨q,PySem.W.cellsFrom_some _ _ _ (.inl q)⟩
 refine codeAny_call_function hr.depth (KX _ _ lk) rfl S.co S.gen rfl (PySem.W.codeRec_of KX hcd) (hb _ _ _ _ ?_)
 refine wpAny_newFunctionEnv_cells S.kind hkind fun env he s1 x=>?_
 subst he
 refine ⟨lim.keeps x.toInCall.keep,codeAny_func ?_⟩
 obtain ⟨t,ht,hq⟩:=hbody A outer s H vs Q E (hr.deeper _) hsp
 have I:Inv (fX CX P w K mg base N qual scope f cdv A outer s H E) [] (start N vs) H s1:=zS S hr.hd e0 hl r x
 refine wpAny_mono (ht [] s1 (start N vs) H _ I hq) (fun fl s' hs=>?_) fun e s' hs=>hs
 have fin:∀{σ':St}{H':Hp}{v:V}{u:Value},Inv (fX CX P w K mg base N qual scope f cdv A outer s H E) [] σ' H' s'->RelV v u->Q v H'->CE outer P w H s Q u s':=
  fun {σ' H' v u} J rv q=>⟨v,H',J.os,J.bare,J.base,J.hok,rv,q⟩
 cases fl with
 | ret u =>
   obtain ⟨v,σ',H',J,rv,q⟩:=hs
   exact fin J rv q
 | next =>
   obtain ⟨σ',H',J,q⟩:=hs
   exact fin (v:=V.non) (u:=Value.none) J rfl q
 | brk =>
   obtain ⟨_,_,_,q⟩:=hs
   exact False.elim q
 | cont =>
   obtain ⟨_,_,_,q⟩:=hs
   exact False.elim q
end L2
namespace L2
open PySem PySem.Spec PyProof.Rows
section
variable {X:Cx}{x:Str}{p pos:Pos}{e:Expr}{es:List Expr}{t:TA}{id T:String}{r:List V->Hp->VK->Prop}
def Ke (r:List V->Hp->VK->Prop)(t:TA):TE:=fun σ H Q=>t σ H fun vs H1=>r vs H1 Q
theorem jn (hc:dj X (.builtin id) r)(hg:Gl X x)(hm:X.mg x=none)(hv:bootBuiltins x=some (.builtin id))(ha:PA X (e::es) t)(hn:x≠"__name__":=by decide)(hdb:(x==("__debug__":Str))=false:=by decide)
 (he:starEach (e::es) X.env=(false,eval e X.env)::starEach es X.env:=by rfl) (hpl:(backTo pos (starEach es X.env)).any (·.1)=false:=by rfl):PE X (.Call (.Name x p) (e::es) [] pos) (Ke r t):=by
 intro pins s σ H Q I h
 refine wpAny_Call_Name_kw (iN I hg hm hv ?_ hn hdb)
 exact PyProof.Rows.callWith_builtin1 (bp (ha pos pins s σ H _ I h) fun us s1 ⟨vs,H1,I1,r1,q1⟩=>hc pins s1 σ H1 vs us Q I1 r1 q1) he hpl
theorem zo (hc:dj X (.type T) r)(hg:Gl X x)(hm:X.mg x=none)(hv:bootBuiltins x=some (.type T))(ha:PA X (e::es) t)(hn:x≠"__name__":=by decide)(hdb:(x==("__debug__":Str))=false:=by decide)
 (he:starEach (e::es) X.env=(false,eval e X.env)::starEach es X.env:=by rfl) (hpl:(backTo pos (starEach es X.env)).any (·.1)=false:=by rfl):PE X (.Call (.Name x p) (e::es) [] pos) (Ke r t):=by
 intro pins s σ H Q I h
 refine wpAny_Call_Name_kw (iN I hg hm hv ?_ hn hdb)
 exact PyProof.Rows.callWith_type1 (bp (ha pos pins s σ H _ I h) fun us s1 ⟨vs,H1,I1,r1,q1⟩=>hc pins s1 σ H1 vs us Q I1 r1 q1) he hpl
end
end L2
namespace HT
open PySem PyProof.Rows
section
variable {prog:Program}{w:World}{A:Around}{E:Value->Shared->Prop}{s:Shared}
theorem EY {t b:Addr}{vs ws:List Value}{Q:Value->Shared->Prop}(ht:IsTup s.heap t vs.toArray)(hb:IsTup s.heap b ws.toArray)(hv:vs≠[])
 (h1:ws=[]->Q (.ref t) s) (h2:ws≠[]->Q (.ref s.heap.objs.size) {s with heap:=s.heap.push {cls:=.type "tuple",data:=.seq (vs++ws).toArray}})
 (hsz:vs.length+ws.length<=sizeLine):wpAny (model prog w) A (binaryOp .Add (.ref t) (.ref b)) Q E s:=by
 obtain ⟨⟨cls,dd,data,sl⟩,ho,hc,n,hd⟩:=id ht
 obtain ⟨⟨cls2,dd2,data2,sl2⟩,ho2,hc2,n2,hd2⟩:=id hb
 simp only at hc hd hc2 hd2
 subst hc hd hc2 hd2
 have e:vs.toArray++ws.toArray=(vs++ws).toArray:=by simp
 by_cases hw:ws=[]
 ·exact concat_meets ⟨_,ho,rfl⟩ ⟨_,ho2,rfl⟩ noFill_tuple_add seq_tuple_add PySem.F.slot_tuple_add PySem.F.entry_tuple_add (PySem.F.args_tuple_add_2 _ _)
   (tuple_addW1 t b vs.toArray ws.toArray n n2 dd dd2 sl sl2 (by simpa using hv) (by simp [hw])) ⟨ho,ho2,h1 hw⟩
 ·refine concat_meets ⟨_,ho,rfl⟩ ⟨_,ho2,rfl⟩ noFill_tuple_add seq_tuple_add PySem.F.slot_tuple_add PySem.F.entry_tuple_add (PySem.F.args_tuple_add_2 _ _)
   (tuple_addW2 t b vs.toArray ws.toArray n n2 dd dd2 sl sl2 (by simpa using hv) (by simpa using hw) (by rw [List.size_toArray,List.size_toArray];exact hsz)) ⟨ho,ho2,?_⟩
  rw [e]
  exact h2 hw
def aV (n d:Nat):Option Int->Nat
 |none=>d
 |some v=>if v<0 then (v+(n:Int)).toNat else min v.toNat n
theorem FC (n d:Nat)(hd:d<=n)(o:Option Int):aV n d o<=n:=by
 cases o with
 |none=>exact hd
 | some v =>
   show (if v<0 then (v+(n:Int)).toNat else min v.toNat n)<=n
   by_cases hv:v<0
   ·rw [if_pos hv];omega
   ·rw [if_neg hv];exact Nat.min_le_right _ _
theorem wU (v:Int)(n d:Nat):(if v<0 then max (v+(n:Int)) 0 else min v (n:Int))=((aV n d (some v):Nat):Int):=by
 show (if v<0 then max (v+(n:Int)) 0 else min v (n:Int))=(((if v<0 then (v+(n:Int)).toNat else min v.toNat n):Nat):Int)
 by_cases hv:v<0
 ·simp only [if_pos hv];omega
 ·simp only [if_neg hv];omega
theorem yr (lo hi:Option Int)(n:Nat):Builtin.Slice.sliceAdjust lo hi 1 (n:Int)=(((aV n 0 lo:Nat):Int),((aV n n hi:Nat):Int)):=by
 have h1:¬ ((1:Int)<0):=by omega
 unfold Builtin.Slice.sliceAdjust
 simp only [h1,if_false]
 refine Prod.ext ?_ ?_
 ·cases lo with
  |none=>rfl
  |some v=>exact wU v n 0
 ·cases hi with
  |none=>rfl
  |some v=>exact wU v n n
theorem xh (i j:Nat):Builtin.Slice.slicePlaces (i:Int) (j:Int) 1=j-i:=by
 unfold Builtin.Slice.slicePlaces
 have h1:(1:Int) > 0:=by omega
 simp only [h1,if_true,Int.ediv_one]
 split<;>omega
theorem qa {v:Value}{o:Option Int}{Q:Option Int->Shared->Prop}(p:IsPart v o)(h:Q o s):wpAny (model prog w) A (Builtin.Slice.slicePartIndex v) Q E s:=by
 cases p with
 |none=>exact slicePart_none h
 |int i t=>exact slicePart_int h
theorem kA {sl:Addr}{vl vu:Value}{lo hi:Option Int}{n:Nat}{Q:Int×Int×Nat->Shared->Prop}(hs:s.heap.IsSliceOf sl vl vu .none)(pl:IsPart vl lo)(pu:IsPart vu hi)
 (h:Q (((aV n 0 lo:Nat):Int),1,aV n n hi-aV n 0 lo) s):wpAny (model prog w) A (Builtin.Slice.sliceApplied (.ref sl) (pure (n:Int))) Q E s:=by
 obtain ⟨os,hos,hcs,hds⟩:=id hs
 unfold Builtin.Slice.sliceApplied Builtin.Slice.sliceFields
 refine tqa (tqa (tqf hos hds (x:=vl) rfl (tqa (tqf hos hds (x:=vu) rfl (tqa (tqf hos hds (x:=.none) rfl (tqb ?_)))))))
 refine tqa (slicePart_none ?_)
 show wpAny _ _ (if ((1:Int)==0)=true then _ else _) _ _ s
 rw [if_neg (by decide)]
 refine tqa (qa pl (tqa (qa pu (tqa (tqb ?_)))))
 show wpAny _ _ (match Builtin.Slice.sliceAdjust lo hi 1 (n:Int) with|(lo,hi)=>pure (lo,(1:Int),Builtin.Slice.slicePlaces lo hi 1)) _ _ s
 rw [yr lo hi n]
 show wpAny _ _ (pure (((aV n 0 lo:Nat):Int),(1:Int),Builtin.Slice.slicePlaces ((aV n 0 lo:Nat):Int) ((aV n n hi:Nat):Int) 1)) _ _ s
 rw [xh]
 exact tqb h
theorem Bj (xs:Array Value)(i k:Nat):((List.range k).filterMap fun (m:Nat)=>xs[((i:Int)+(m:Int)*1).toNat]?).toArray=((xs.toList.drop i).take k).toArray:=by
 have e:(fun (m:Nat)=>xs[((i:Int)+(m:Int)*1).toNat]?)=fun m=>xs[i+m]?:=by
  funext m
  have:((i:Int)+(m:Int)*1).toNat=i+m:=by omega
  rw [this]
 rw [e]
 have:=pick_run xs i k
 rw [List.filterMap_map] at this
 have e2:((fun x=>xs[x]?)∘fun x=>i+x)=fun m=>xs[i+m]?:=rfl
 rw [e2] at this
 rw [this]
theorem oR {t sl:Addr}{items:Array Value}{vl vu:Value}{lo hi:Option Int}{Q:Value->Shared->Prop}(ht:IsTup s.heap t items)(hs:s.heap.IsSliceOf sl vl vu .none)(pl:IsPart vl lo)(pu:IsPart vu hi)
 (hw:¬ (aV items.size 0 lo=0/\aV items.size items.size hi=items.size))
 (h:Q (.ref s.heap.objs.size) {s with heap:=s.heap.push {cls:=.type "tuple",data:=.seq ((items.toList.drop (aV items.size 0 lo)).take (aV items.size items.size hi-aV items.size 0 lo)).toArray}})
 (hsz:items.size<=sizeLine):wpAny (model prog w) A (getItem (.ref t) (.ref sl)) Q E s:=by
 have htake:sizeOk (.seq ((items.toList.drop (aV items.size 0 lo)).take (aV items.size items.size hi-aV items.size 0 lo)).toArray):=by
  show ((items.toList.drop (aV items.size 0 lo)).take (aV items.size items.size hi-aV items.size 0 lo)).toArray.size<=sizeLine
  rw [List.size_toArray,List.length_take,List.length_drop,Array.length_toList]
  omega
 have hj:aV items.size items.size hi<=items.size:=FC _ _ (tqg _) hi
 obtain ⟨os,hos,hcs,hds⟩:=id hs
 have hTs:s.TypeIs (.ref sl) "slice":=⟨os,hos,hcs⟩
 unfold getItem
 try with_reducible refine tqo ?_
 first|refine tqa (tqb ?_)|skip
 refine tqa (wpAny_sequenceKey ht.typeIs (by decide) ?_)
 refine tqa (wpAny_callSpecial?_slot (name:=Str.ofString "__getitem__") ht.typeIs PyProof.Rows.slot_tuple_getitem
  (wpAny_call_entry PyProof.Rows.slot_tuple_getitem ht.typeIs entry_tuple_getitem ?_ (args_tuple_getitem _ _)))
 show wpAny _ _ (Builtin.Tuple.tupleItemsOf (.ref t) >>= _) _ _ s
 refine tqa (tupleItemsOf_ ht ?_)
 refine tqa (wpAny_typeOf hTs ?_)
 rw [if_pos (by decide)]
 refine tqa (kA hs pl pu ?_)
 have hno:¬ ((((aV items.size 0 lo:Nat):Int)==0&&(1:Int)==1&&(aV items.size items.size hi-aV items.size 0 lo)==items.size)=true):=by
  intro q
  rw [Bool.and_eq_true,Bool.and_eq_true] at q
  have q1:((aV items.size 0 lo:Nat):Int)=0:=eq_of_beq q.1.1
  have q2:aV items.size items.size hi-aV items.size 0 lo=items.size:=eq_of_beq q.2
  exact hw ⟨by omega,by omega⟩
 show wpAny _ _ (if (((aV items.size 0 lo:Nat):Int)==0&&(1:Int)==1&&(aV items.size items.size hi-aV items.size 0 lo)==items.size)=true then _ else _) _ _ s
 rw [if_neg hno,Bj]
 first
  |exact tqa (m:=Builtin.Tuple.tupleExact _) (wpAny_newObj_type (tqb ⟨_,rfl,tqb h⟩) htake)
  |exact tqa (m:=Builtin.Tuple.tupleExact _) (wpAny_newObj_type (tqa (tqb (tqb ⟨_,rfl,tqb h⟩))) htake)
  |exact tqa (tqa (m:=Builtin.Tuple.tupleExact _) (wpAny_newObj_type (tqb (tqb ⟨_,rfl,tqb h⟩)) htake))
  |exact tqa (tqa (m:=Builtin.Tuple.tupleExact _) (wpAny_newObj_type (tqb ⟨_,rfl,tqb h⟩) htake))
end
end HT
namespace L2
open PySem PySem.Spec PyProof.Rows
abbrev TO:=St->Hp->(Option Int->Hp->Prop)->Prop
def PO (X:Cx)(e:Option Expr)(t:TO):Prop:=
 ∀(pins:List (Addr×Obj)) (s:Shared) (σ:St) (H:Hp) (Q:Option Int->Hp->Prop),Inv X pins σ H s->t σ H Q->
  wpAny (model X.prog X.w) X.A (evalPart e X.env) (fun u s'=>∃o H',Inv X pins σ H' s'/\IsPart u o/\Q o H') X.xe s
def Dl:TO:=fun _ H Q=>Q none H
def IU (t:TE):TO:=fun σ H Q=>t σ H fun x H1=>∃i,x=.int i/\Q (some i) H1
section
variable {X:Cx}{e:Expr}{te:TE}{lo hi:Option Expr}{tl th:TO}{pos p2:Pos}
theorem DZ:PO X none Dl:=by
 intro pins s σ H Q I h
 rw [evalPart_none]
 exact tqb ⟨none,H,I,.none,h⟩
theorem DY (h:PE X e te):PO X (some e) (IU te):=by
 intro pins s σ H Q I hw
 rw [evalPart_some]
 refine bp (h pins s σ H _ I hw) fun u s1 ⟨x,H1,I1,r1,q1⟩=>?_
 obtain ⟨i,rfl,q⟩:=q1
 obtain ⟨t,rfl⟩:=r1
 exact ⟨some i,H1,I1,.int i t,q⟩
def mU (X:Cx)(r:V->Option Int->Option Int->Hp->VK->Prop):Prop:=
 ∀(pins:List (Addr×Obj)) (s:Shared) (σ:St) (H:Hp) (x:V) (v vl vu:Value) (lo hi:Option Int) (sl:Addr) (Q:VK),Inv X pins σ H s->RelV x v->s.heap.IsSliceOf sl vl vu .none->IsPart vl lo->IsPart vu hi->r x lo hi H Q->
  ∃T id,typeLookup (.type T) "__getitem__"=pure (some (.builtin id))/\s.TypeIs v T/\wpAny (model X.prog X.w) X.A (getItem v (.ref sl)) (EP X pins σ Q) X.xe s
theorem mU.or {r r':V->Option Int->Option Int->Hp->VK->Prop}(h:mU X r)(h':mU X r'):mU X (fun x lo hi H Q=>r x lo hi H Q\/r' x lo hi H Q):=by
 intro pins s σ H x v vl vu lo hi sl Q I rx hs pl pu q
 rcases q with q|q
 ·exact h pins s σ H x v vl vu lo hi sl Q I rx hs pl pu q
 ·exact h' pins s σ H x v vl vu lo hi sl Q I rx hs pl pu q
def tSl (r:V->Option Int->Option Int->Hp->VK->Prop)(te:TE)(tl th:TO):TE:=fun σ H Q=>te σ H fun x H1=>tl σ H1 fun l H2=>th σ H2 fun u H3=>r x l u H3 Q
theorem uS {r:V->Option Int->Option Int->Hp->VK->Prop}(hr:mU X r)(he:PE X e te)(hl:PO X lo tl)(hu:PO X hi th):PE X (.Subscript e (.Slice lo hi none p2) pos) (tSl r te tl th):=by
 intro pins s σ H Q I h
 refine Subscript_ (bp (he pins s σ H _ I h) fun v s1 ⟨x,H1,I1,r1,q1⟩=>?_)
 refine wpAny_Slice (bp (hl pins s1 σ H1 _ I1 q1) fun vl s2 ⟨l,H2,I2,pl,q2⟩=>bp (hu pins s2 σ H2 _ I2 q2) fun vu s3 ⟨u,H3,I3,pu,q3⟩=>?_)
 rw [evalPart_none]
 refine tqb ?_
 have I4:Inv X pins σ H3 {s3 with heap:=s3.heap.push {cls:=.type "slice",data:=.fields #[vl,vu,.none]}}:=I3.kept (t':=s3.toks) fun b ob q=>tqc _ q
 obtain ⟨T,id,hT,ht,hg⟩:=hr pins {s3 with heap:=s3.heap.push {cls:=.type "slice",data:=.fields #[vl,vu,.none]}} σ H3 x v vl vu l u s3.heap.objs.size Q I4 r1 (Heap.IsSliceOf.new ..) pl pu q3
 show wpAny (model X.prog X.w) X.A (subscriptTail e (.Slice lo hi none p2) v (.ref s3.heap.objs.size)) (EP X pins σ Q) X.xe {s3 with heap:=s3.heap.push {cls:=.type "slice",data:=.fields #[vl,vu,.none]}}
 exact tail_any (ops:=[.ref s3.heap.objs.size,v]) ht hT hg (by with_unfolding_all rfl)
def nU (xs:List V)(lo hi:Option Int):List V:=(xs.drop (HT.aV xs.length 0 lo)).take (HT.aV xs.length xs.length hi-HT.aV xs.length 0 lo)
theorem oV (xs:List V)(lo hi:Option Int):(nU xs lo hi).length<=xs.length:=by
 unfold nU
 rw [List.length_take,List.length_drop]
 omega
def FJ (K:PySem.W.Frag):V->Option Int->Option Int->Hp->VK->Prop:=fun x lo hi H Q=>∃a xs,x=.ref a/\d8 K H a xs/\
 ¬ (HT.aV xs.length 0 lo=0/\HT.aV xs.length xs.length hi=xs.length)/\∀p,H p=none->Q (.ref p) (upd H p (.tup (nU xs lo hi)))
theorem Fq:mU X (FJ X.K):=by
 intro pins s σ H x v vl vu lo hi sl Q I rx hs pl pu h
 obtain ⟨a,xs,rfl,hx,hw,q⟩:=h
 cases rx
 obtain ⟨its,r,ht,hz⟩:=I.tuple hx
 have hlen:its.toArray.size=xs.length:=by rw [List.size_toArray];exact r.length.symm
 refine ⟨"tuple",_,PyProof.Rows.slot_tuple_getitem.lookup,ht.typeIs,?_⟩
 refine HT.oR ht hs pl pu (by rw [hlen];exact hw) ?_ (by rw [hlen];exact hz)
 rw [hlen]
 refine ⟨.ref s.heap.objs.size,_,I.laid (t':=s.toks) (o:=.tup (nU xs lo hi)) (fun b ob q=>tqc _ q) (tqg _) ?_,rfl,q _ (I.hok.fresh (tqg _))⟩
 exact ⟨tqh (oV xs lo hi) hz,_,(r.drop (HT.aV xs.length 0 lo)).take (HT.aV xs.length xs.length hi-HT.aV xs.length 0 lo),IsTup.new _ _⟩
def Jg (K:PySem.W.Frag):R2:=fun x y H Q=>∃a b xs ys,x=.ref a/\y=.ref b/\d8 K H a xs/\d8 K H b ys/\xs≠[]/\xs.length+ys.length<=sizeLine/\
 (ys=[]->Q (.ref a) H)/\(ys≠[]->∀p,H p=none->Q (.ref p) (upd H p (.tup (xs++ys))))
theorem Vals.nil_iff {xs:List V}{us:List Value}(r:Vals xs us):us=[]↔xs=[]:=by
 cases r with
 |nil=>simp
 |cons _ _=>simp
theorem Ea:cu X (binaryOp .Add) (Jg X.K):=by
 intro pins s σ H x y v u Q I rx ry h
 obtain ⟨a,b,xs,ys,rfl,rfl,ha,hb,hx,hz,q1,q2⟩:=h
 cases rx
 cases ry
 obtain ⟨its,r1,p1,_⟩:=I.tuple ha
 obtain ⟨its2,r2,p2,_⟩:=I.tuple hb
 refine HT.EY p1 p2 (fun z=>hx (r1.nil_iff.mp z)) (fun z=>⟨.ref a,H,I,rfl,q1 (r2.nil_iff.mp z)⟩) (fun z=>?_) (by rw [<- r1.length,<- r2.length];exact hz)
 refine ⟨.ref s.heap.objs.size,_,I.laid (t':=s.toks) (o:=.tup (xs++ys)) (fun b ob q=>tqc _ q) (tqg _) ?_,rfl,q2 (fun w=>z (r2.nil_iff.mpr w)) _ (I.hok.fresh (tqg _))⟩
 exact ⟨by rw [List.length_append];exact hz,_,r1.append r2,IsTup.new _ _⟩
end
end L2
namespace L2
open PySem PySem.Spec PyProof.Rows
def bV (n:Nat)(i:Int):Option Nat:=if 0<=i then (if i<n then some i.toNat else none) else if -(n:Int)<=i then some (i+n).toNat else none
def tm {α:Type}(xs:List α)(i:Int):Option α:=(bV xs.length i).bind fun j=>xs[j]?
theorem wB {n:Nat}{i:Int}{j:Nat}(h:bV n i=some j):seqIndex? i n=some j/\j<n/\-(n:Int)<=i/\i<n:=by
 unfold bV at h
 by_cases h0:0<=i
 ·rw [if_pos h0] at h
  by_cases h1:i<n
  ·rw [if_pos h1] at h
   have e:i.toNat=j:=Option.some.inj h
   exact ⟨by rw [seqIndex_of h0 h1,e],by omega,by omega,h1⟩
  ·rw [if_neg h1] at h;cases h
 ·rw [if_neg h0] at h
  by_cases h1:-(n:Int)<=i
  ·rw [if_pos h1] at h
   have e:(i+n).toNat=j:=Option.some.inj h
   exact ⟨by rw [seqIndex_neg (by omega) h1,e],by omega,h1,by omega⟩
  ·rw [if_neg h1] at h;cases h
theorem r8 {α:Type}{xs:List α}{i:Int}{v:α}(h:tm xs i=some v):∃j,seqIndex? i xs.length=some j/\xs[j]?=some v/\j<xs.length/\-(xs.length:Int)<=i/\i<xs.length:=by
 unfold tm at h
 cases e:bV xs.length i with
 |none=>rw [e] at h;cases h
 | some j =>
   rw [e] at h
   obtain ⟨h1,h2,h3,h4⟩:=wB e
   exact ⟨j,h1,h,h2,h3,h4⟩
def md (b:Expr):Prop:=∀o i,subscripted b false o i=operate [o,i] (getItem o i)
def mf (X:Cx)(r:R2):Prop:=
 ∀(value slice:Expr) (pins:List (Addr×Obj)) (s:Shared) (σ:St) (H:Hp) (x y:V) (v u:Value) (Q:VK),Inv X pins σ H s->RelV x v->RelV y u->r x y H Q->
  subscripted slice false v u=operate [v,u] (getItem v u)->wpAny (model X.prog X.w) X.A (subscriptTail value slice v u) (EP X pins σ Q) X.xe s
def IC (X:Cx)(id:String)(r:V->List V->Hp->VK->Prop):Prop:=
 ∀(pins:List (Addr×Obj)) (s:Shared) (σ:St) (H:Hp) (x:V) (xs:List V) (v:Value) (us:List Value) (Q:VK),Inv X pins σ H s->RelV x v->Vals xs us->r x xs H Q->
  wpAny (model X.prog X.w) X.A (call (.builtin id) (v::us)) (EP X pins σ Q) X.xe s
section
variable {X:Cx}{a b:Expr}{ta tb:TE}{pos:Pos}
theorem mf.or {r r':R2}(h:mf X r)(h':mf X r'):mf X (fun x y H Q=>r x y H Q\/r' x y H Q):=by
 intro value slice pins s σ H x y v u Q I rx ry q hs
 rcases q with q|q
 ·exact h value slice pins s σ H x y v u Q I rx ry q hs
 ·exact h' value slice pins s σ H x y v u Q I rx ry q hs
theorem CF {r:R2}(hr:mf X r)(ha:PE X a ta)(hb:PE X b tb)(hs:md b):PE X (.Subscript a b pos) (yR r ta tb):=by
 intro pins s σ H Q I h
 exact Subscript_ (Cj ha hb I h fun v u s2 x y H2 I2 rx ry q=>hr a b pins s2 σ H2 x y v u Q I2 rx ry q (hs _ _))
def FP (K:PySem.W.Frag):R2:=fun x y H Q=>∃p xs i v,x=.ref p/\y=.int i/\dg K H p xs/\tm xs i=some v/\Q v H
def FN (K:PySem.W.Frag):R2:=fun x y H Q=>∃p xs i v,x=.ref p/\y=.int i/\d8 K H p xs/\tm xs i=some v/\Q v H
def FO:R2:=fun x y H Q=>∃z i c,x=.str z/\y=.int i/\z.length<=sizeLine/\tm z.cps.toList i=some c/\Q (.str ⟨#[c]⟩) H
theorem Em:mf X (FP X.K):=by
 intro value slice pins s σ H x y v u Q I rx ry h hs
 obtain ⟨p,xs,i,z,rfl,rfl,hq,he,q⟩:=h
 cases rx
 obtain ⟨t,rfl⟩:=ry
 obtain ⟨its,r,pl,hz⟩:=I.list hq
 obtain ⟨j,h1,h2,h3,h4,h5⟩:=r8 he
 obtain ⟨w,ew,rw'⟩:=r.get h2
 have hl:=r.length
 have hn:=kZ
 have fin:EP X pins σ Q w s:=⟨z,H,I,rw',q⟩
 by_cases h0:0<=i
 ·have hj:i.toNat=j:=by
   rw [seqIndex_of h0 h5] at h1
   exact Option.some.inj h1
  exact item_listR pl.isList h0 (by omega) (by rw [hj];simpa using ew) fin hs
 ·have hj:(i+(its.toArray.size:Int)).toNat=j:=by
   rw [seqIndex_neg (by omega) h4] at h1
   rw [List.size_toArray,<- hl]
   exact Option.some.inj h1
  exact subscriptTail_builtinR (x:=w) pl.isList.typeIs slot_list_getitem.lookup
   (wpAny_getItem_list_neg (Q:=fun r s'=>r=w/\EP X pins σ Q r s') pl.isList (by omega) (by rw [List.size_toArray]<;>omega) (by omega) (by rw [hj];simpa using ew) ⟨rfl,fin⟩) hs
theorem HC:mf X (FN X.K):=by
 intro value slice pins s σ H x y v u Q I rx ry h hs
 obtain ⟨p,xs,i,z,rfl,rfl,hq,he,q⟩:=h
 cases rx
 obtain ⟨t,rfl⟩:=ry
 obtain ⟨its,r,pl,hz⟩:=I.tuple hq
 obtain ⟨j,h1,h2,h3,h4,h5⟩:=r8 he
 obtain ⟨w,ew,rw'⟩:=r.get h2
 have hl:=r.length
 have hn:=kZ
 have fin:EP X pins σ Q w s:=⟨z,H,I,rw',q⟩
 exact subscriptTail_builtinR (x:=w) pl.typeIs slot_tuple_getitem.lookup
  (getItem_tuple (j:=j) (Q:=fun r s'=>r=w/\EP X pins σ Q r s') pl (by omega) (by omega) (by rw [List.size_toArray,<- hl];exact h1) (by simpa using ew) ⟨rfl,fin⟩) hs
theorem HE:mf X FO:=by
 intro value slice pins s σ H x y v u Q I rx ry h hs
 obtain ⟨z,i,c,rfl,rfl,hz,he,q⟩:=h
 obtain ⟨t,rfl⟩:=rx
 obtain ⟨t',rfl⟩:=ry
 obtain ⟨j,h1,h2,h3,h4,h5⟩:=r8 he
 have hl:z.cps.toList.length=z.length:=by simp [Str.length]
 rw [hl] at h1 h4 h5
 have hn:=kZ
 exact tail_any (typeIs_str s z t) slot_str_getitem.lookup (getItem_str (c:=c) (by
  have e1:decide (i < -(2^63:Int))=false:=decide_eq_false (by omega)
  have e2:decide (i≥2^63)=false:=decide_eq_false (by omega)
  rw [e1,e2,Bool.or_false]) (by rw [h1];simpa using h2) ⟨.str ⟨#[c]⟩,H,I.tok _,⟨_,rfl⟩,q⟩) hs
def FQ (K:PySem.W.Frag):R2:=fun x y H Q=>FP K x y H Q\/FN K x y H Q\/FO x y H Q
theorem HF:mf X (FQ X.K):=Em.or (HC.or HE)
theorem xN (its:List Value)(n j:Nat)(u:Value):Obj.mapSeq (·.setIfInBounds j u) {cls:=.type "list",data:=.seq its.toArray n}={cls:=.type "list",data:=.seq (its.set j u).toArray n}:=by
 simp [Obj.mapSeq]
theorem Inv.lst {pins:List (Addr×Obj)}{σ:St}{H:Hp}{s:Shared}{p:Addr}{xs:List V}(I:Inv X pins σ H s)(h:H p=some (.lst xs)) :
 ∃(its:List Value) (n:Nat),Vals xs its/\s.heap.get? p=some {cls:=.type "list",data:=.seq its.toArray n}/\xs.length<=sizeLine:=by
 obtain ⟨z,its,n,r,e⟩:=I.hok p _ h
 exact ⟨its,n,r,e,z⟩
theorem Inv.lstUpd {pins:List (Addr×Obj)}{σ:St}{H:Hp}{s:Shared}{p:Addr}{xs ys:List V}{its its':List Value}{n n':Nat}{f:Obj->Obj}(I:Inv X pins σ H s)(h:H p=some (.lst xs))
 (ho:s.heap.get? p=some {cls:=.type "list",data:=.seq its.toArray n}) (hf:f {cls:=.type "list",data:=.seq its.toArray n}={cls:=.type "list",data:=.seq its'.toArray n'}) (r:Vals ys its') (hz:ys.length<=sizeLine) (t:Nat) :
 Inv X pins σ (upd H p (.lst ys)) {s with heap:=s.heap.update p f,toks:=t}:=by
 have e:(s.heap.update p f).get? p=some {cls:=.type "list",data:=.seq its'.toArray n'}:=by
  rw [tqm f ho (by rw [hf]<;>rfl),hf]
 refine I.write (x:=p) (e:=p) (by rw [h];trivial) (.inl rfl) (fun b u hb q=>(tql _ _ (Ne.symm hb)).trans q) ⟨_,e⟩ ?_
 exact ⟨hz,its',n',r,e⟩
def CC:V->V->V->Hp->(Hp->Prop)->Prop:=fun o i v H Q=>∃p xs k j,o=.ref p/\i=.int k/\H p=some (.lst xs)/\bV xs.length k=some j/\Q (upd H p (.lst (xs.set j v)))
theorem set_list:IB X CC:=by
 intro pins s σ H o i v ov iv u Q I ro ri rv h
 obtain ⟨p,xs,k,j,rfl,rfl,hp,hj,q⟩:=h
 cases ro
 obtain ⟨t,rfl⟩:=ri
 obtain ⟨its,n,r,ho,hz⟩:=I.lst hp
 obtain ⟨h1,h2,h3,h4⟩:=wB hj
 have hl:=r.length
 have hn:=kZ
 have I':Inv X pins σ (upd H p (.lst (xs.set j v))) {s with heap:=s.heap.update p (Obj.mapSeq (·.setIfInBounds j u))}:=
  I.lstUpd hp ho (xN its n j u) (r.set rv j) (by rw [List.length_set];exact hz) s.toks
 by_cases h0:0<=k
 ·have hk:k.toNat=j:=by
   rw [seqIndex_of h0 h4] at h1
   exact Option.some.inj h1
  exact PySem.W.ki_setAt ho h0 (by omega) (by rw [List.size_toArray,<- hl];exact h4) (by rw [hk];exact ⟨_,I',q⟩)
 ·have hk:(k+(its.toArray.size:Int)).toNat=j:=by
   rw [seqIndex_neg (by omega) h3] at h1
   rw [List.size_toArray,<- hl]
   exact Option.some.inj h1
  exact PySem.W.ki_setBack ho (by omega) (by rw [List.size_toArray,<- hl];exact h3) (by omega) (by rw [hk];exact ⟨_,I',q⟩)
theorem uD (lo hi:Option Int)(n:Nat):(sliceBounds lo hi none n).1=((HT.aV n 0 lo:Nat):Int)/\(sliceBounds lo hi none n).2.1=((HT.aV n n hi:Nat):Int)/\(sliceBounds lo hi none n).2.2=1:=by
 refine ⟨?_,?_,rfl⟩
 ·cases lo with
  |none=>simp [sliceBounds,HT.aV]
  | some i =>
    simp only [sliceBounds,HT.aV,Option.getD_none,show (1:Int) > 0 by decide,if_true]
    by_cases h:i<0
    ·simp only [h,if_true]<;>omega
    ·simp only [h,if_false]<;>omega
 ·cases hi with
  |none=>simp [sliceBounds,HT.aV]
  | some i =>
    simp only [sliceBounds,HT.aV,Option.getD_none,show (1:Int) > 0 by decide,if_true]
    by_cases h:i<0
    ·simp only [h,if_true]<;>omega
    ·simp only [h,if_false]<;>omega
theorem tB (its:List Value)(lo hi:Option Int):slicePick its.toArray lo hi none=((its.drop (HT.aV its.length 0 lo)).take (HT.aV its.length its.length hi-HT.aV its.length 0 lo)).toArray:=by
 obtain ⟨h1,h2,h3⟩:=uD lo hi its.toArray.size
 unfold slicePick
 rw [h1,h2,h3]
 simp only [sliceRange_one,pick_run,List.size_toArray]<;>rfl
def FK (K:PySem.W.Frag):V->Option Int->Option Int->Hp->VK->Prop:=fun x lo hi H Q=>∃a xs,x=.ref a/\dg K H a xs/\∀p,H p=none->Q (.ref p) (upd H p (.lst (nU xs lo hi)))
theorem Dw:mU X (FK X.K):=by
 intro pins s σ H x v vl vu lo hi sl Q I rx hs pl pu h
 obtain ⟨a,xs,rfl,hx,q⟩:=h
 cases rx
 obtain ⟨its,r,ht,hz⟩:=I.list hx
 have hlen:=r.length
 refine ⟨"list",_,slot_list_getitem.lookup,ht.isList.typeIs,?_⟩
 refine wpAny_getItem_list_slice ht.isList hs pl pu .none (by simp) ?_ (by rw [List.size_toArray]<;>omega)
 rw [tB,<- hlen]
 refine ⟨.ref s.heap.objs.size,_,I.laid (t':=s.toks) (o:=.lst (nU xs lo hi)) (fun b ob q=>tqc _ q) (tqg _) ?_,rfl,q _ (I.hok.fresh (tqg _))⟩
 exact ⟨tqh (oV xs lo hi) hz,_,0,(r.drop (HT.aV xs.length 0 lo)).take (HT.aV xs.length xs.length hi-HT.aV xs.length 0 lo),tqe _ rfl⟩
theorem vA:dj X (.builtin "len") (fun xs H Q=>∃p ys,xs=[.ref p]/\(dg X.K H p ys\/d8 X.K H p ys)/\Q (.int ys.length) H):=by
 intro pins s σ H xs us Q I r h
 obtain ⟨p,ys,rfl,hq,q⟩:=h
 obtain ⟨u,rfl,rx⟩:=vals1 r
 cases rx
 have hn:=kZ
 rcases hq with hq|hq
 ·obtain ⟨its,r',pl,hz⟩:=I.list hq
  have hlen:=r'.length
  exact Calls.call_len_list pl.isList (by simp only [List.size_toArray]<;>omega) ⟨.int ys.length,H,I.tok _,⟨s.toks+1,by rw [List.size_toArray,hlen]⟩,q⟩
 ·obtain ⟨its,r',pl,hz⟩:=I.tuple hq
  have hlen:=r'.length
  exact len_tuple pl (by simp only [List.size_toArray]<;>omega) ⟨.int ys.length,H,I.tok _,⟨s.toks+1,by rw [List.size_toArray,hlen]⟩,q⟩
theorem vv:dj X (.builtin "len") (fun xs H Q=>∃z,xs=[.str z]/\z.length<=sizeLine/\Q (.int z.length) H):=by
 intro pins s σ H xs us Q I r h
 obtain ⟨z,rfl,hz,q⟩:=h
 obtain ⟨u,rfl,t,rfl⟩:=vals1 r
 have hn:=kZ
 exact len_str (by omega) ⟨.int z.length,H,I.tok _,⟨_,rfl⟩,q⟩
theorem dj.or {f:Value}{r r':List V->Hp->VK->Prop}(h:dj X f r)(h':dj X f r'):dj X f (fun xs H Q=>r xs H Q\/r' xs H Q):=by
 intro pins s σ H xs us Q I rs q
 rcases q with q|q
 ·exact h pins s σ H xs us Q I rs q
 ·exact h' pins s σ H xs us Q I rs q
theorem vt:dj X (.type "list") (fun xs H Q=>∃p ys,xs=[.ref p]/\(dg X.K H p ys\/d8 X.K H p ys)/\∀l,H l=none->Q (.ref l) (upd H l (.lst ys))):=by
 intro pins s σ H xs us Q I r h
 obtain ⟨p,ys,rfl,hq,q⟩:=h
 obtain ⟨u,rfl,rx⟩:=vals1 r
 cases rx
 have fin:∀(its:List Value),Vals ys its->ys.length<=sizeLine->∀(h':Heap) (c':Nat),(∀b o',s.heap.get? b=some o'->h'.get? b=some o')->
  h'.get? s.heap.objs.size=some {cls:=.type "list",dict:=none,data:=.seq its.toArray c',slots:=#[]}->EP X pins σ Q (.ref s.heap.objs.size) {s with heap:=h'}:=fun its r' hz h' c' kp e=>
  ⟨.ref s.heap.objs.size,_,I.laid (t':=s.toks) kp (tqg _) (show di X.prog X.w _ h' _ (.lst ys) from ⟨hz,its,c',r',e⟩),rfl,q _ (I.hok.fresh (tqg _))⟩
 rcases hq with hq|hq
 ·obtain ⟨its,r',pl,hz⟩:=I.list hq
  have hlen:=r'.length
  obtain ⟨o,ho,hc,n,hd⟩:=pl.isList
  exact call_list_seq p (.inl rfl) ho hc hd (fun h' c' kp e=>fin its r' hz h' c' kp e) (by simp only [List.size_toArray]<;>omega)
 ·obtain ⟨its,r',pl,hz⟩:=I.tuple hq
  have hlen:=r'.length
  obtain ⟨o,ho,hc,n,hd⟩:=pl
  exact call_list_seq p (.inr rfl) ho hc hd (fun h' c' kp e=>fin its r' hz h' c' kp e) (by simp only [List.size_toArray]<;>omega)
theorem tM:dj X (.type "tuple") (fun xs H Q=>∃p ys,xs=[.ref p]/\((dg X.K H p ys/\∀l,H l=none->Q (.ref l) (upd H l (.tup ys)))\/(d8 X.K H p ys/\Q (.ref p) H))):=by
 intro pins s σ H xs us Q I r h
 obtain ⟨p,ys,rfl,h⟩:=h
 obtain ⟨u,rfl,rx⟩:=vals1 r
 cases rx
 rcases h with ⟨hq,q⟩|⟨hq,q⟩
 ·obtain ⟨its,r',pl,hz⟩:=I.list hq
  have hlen:=r'.length
  refine call_tuple_list pl.isList (fun h' kp=>?_) (by simp only [List.size_toArray]<;>omega)
  have I1:Inv X pins σ H {s with heap:=h'}:=I.kept (t':=s.toks) kp
  have I2:Inv X pins σ (upd H h'.objs.size (.tup ys)) {s with heap:=h'.push {cls:=.type "tuple",data:=.seq its.toArray}}:=
   I1.laid (t':=s.toks) (fun b o e=>tqc _ e) (tqg _) (show di X.prog X.w _ _ _ (.tup ys) from ⟨hz,its,r',IsTup.new _ _⟩)
  exact ⟨.ref h'.objs.size,_,I2,rfl,q _ (I1.hok.fresh (tqg _))⟩
 ·obtain ⟨its,r',pl,hz⟩:=I.tuple hq
  exact call_tuple_same pl ⟨.ref p,H,I,rfl,q⟩
def Ka (K:PySem.W.Frag)(T:String)(x:V)(H:Hp):Prop:=match x with
 |.str _=>T="str"
 |.int _=>T="int"
 |.ref p=>(T="list"/\∃xs,dg K H p xs)\/(T="tuple"/\∃o,K.lookup p=some o/\o.cls=.type "tuple"/\o.dict=none)\/
  (T="dict"/\((∃kvs,H p=some (.dK kvs))\/∃kvs,H p=some (.dT kvs)))\/(T="set"/\∃S n,H p=some (.set S n))
 |_=>False
theorem Ff {pins:List (Addr×Obj)}{σ:St}{H:Hp}{s:Shared}{T:String}{x:V}{v:Value}(I:Inv X pins σ H s)(r:RelV x v)(ty:Ka X.K T x H) :
 s.TypeIs v T/\∀a,v=.ref a->∃ob,s.heap.get? a=some ob/\ob.dict=none:=by
 cases x with
 | str z =>
   obtain ⟨t,rfl⟩:=r
   cases (show T="str" from ty)
   exact ⟨typeIs_str s z t,fun _ e=>nomatch e⟩
 | int i =>
   obtain ⟨t,rfl⟩:=r
   cases (show T="int" from ty)
   exact ⟨typeIs_int s i t,fun _ e=>nomatch e⟩
 | ref p =>
   cases r
   rcases ty with ⟨rfl,xs,hq⟩|⟨rfl,o,hk,hc,hd⟩|⟨rfl,hk⟩|⟨rfl,S,n,hk⟩
   ·obtain ⟨its,_,pl,_⟩:=I.list hq
    refine ⟨pl.isList.typeIs,fun a e=>?_⟩
    cases e
    obtain ⟨o,n,e,c,hd,_⟩:=pl
    exact ⟨o,e,hd⟩
   ·refine ⟨⟨o,I.kIn p o hk,hc⟩,fun a e=>?_⟩
    cases e
    exact ⟨o,I.kIn _ o hk,hd⟩
   ·have z:∃o,s.heap.get? p=some o/\o.ExactDict:=by
     rcases hk with ⟨kvs,hk⟩|⟨kvs,hk⟩
     ·obtain ⟨_,_,_,_,o,_,_,e,ex,_⟩:=I.hok p _ hk
      exact ⟨o,e,ex⟩
     ·obtain ⟨_,_,_,_,o,_,_,e,ex,_⟩:=I.hok p _ hk
      exact ⟨o,e,ex⟩
    obtain ⟨o,e,ex⟩:=z
    refine ⟨⟨o,e,ex.1⟩,fun a e2=>?_⟩
    cases e2
    exact ⟨o,e,ex.2.1⟩
   ·obtain ⟨o,_,_,_,e,ex,_⟩:=I.hok p _ hk
    refine ⟨⟨o,e,ex.1⟩,fun a e2=>?_⟩
    cases e2
    exact ⟨o,e,ex.2.1⟩
 |_=>exact False.elim ty
def tBM (K:PySem.W.Frag)(T:String)(r:V->List V->Hp->VK->Prop)(to:TE)(t:TA):TE:=fun σ H Q=>to σ H fun x H1=>Ka K T x H1/\t σ H1 fun xs H2=>r x xs H2 Q
variable {o e:Expr}{es:List Expr}{to:TE}{t:TA}{name:Str}{apos cpos:Pos}{T id:String}{r:V->List V->Hp->VK->Prop}
theorem xi (pa:PlainAttrs T)(slot:Slot T name id)(hty:typeOf (.builtin id)=pure (.type "method_descriptor"))(hm:IC X id r)(ho:PE X o to)(ha:PA X (e::es) t)
 (hbase:attributeBase o name X.env (eval o X.env)=eval o X.env:=by rfl)
 (hfew:((backTo cpos (starEach (e::es) X.env)).all (fun x=>!x.1)&&(backToKw cpos (keywordEach [] X.env)).all (fun x=>x.1.isSome)
  && decide ((e::es).length+([]:List Keyword).length+(if ([]:List Keyword).isEmpty then 0 else 1)<30))=true:=by rfl)
 (hline:(apos.endLine==cpos.line)=true:=by rfl) (hs:starEach (e::es) X.env=(false,eval e X.env)::starEach es X.env:=by rfl) (hplain:(backTo cpos (starEach es X.env)).any (·.1)=false:=by rfl) :
 PE X (.Call (.Attribute o name apos) (e::es) [] cpos) (tBM X.K T r to t):=by
 intro pins s σ H Q I h
 refine wpAny_Call_method_late hbase hfew hline rfl (bp (ho pins s σ H _ I h) fun v s1 ⟨x,H1,I1,r1,ty,q1⟩=>?_)
 obtain ⟨h1,h2⟩:=Ff I1 r1 ty
 refine ⟨T,id,pa,slot,hty,h1,h2,?_⟩
 have hA:=ha cpos pins s1 σ H1 _ I1 q1
 rw [hs] at hA ⊢
 refine Calls.callWith_builtin (by show (false||(backTo cpos (starEach es X.env)).any (·.1))=false;rw [hplain]<;>rfl) (Calls.evalArgs_plain ?_)
 exact bp hA fun us s2 ⟨vs,H2,I2,r2,q2⟩=>hm pins s2 σ H2 x vs v us Q I2 r1 r2 q2
end
end L2
namespace L2
open PySem PySem.Spec PyProof.Rows
def Kw (X:Cx)(id:String)(r:V->List V->Hp->VK->Prop):Prop:=
 ∀(pins:List (Addr×Obj)) (s:Shared) (σ:St) (H:Hp) (x:V) (xs:List V) (v:Value) (us:List Value) (Q:VK),Inv X pins σ H s->RelV x v->Vals xs us->r x xs H Q->
  wpAny (model X.prog X.w) X.A (call (.builtin id) (v::us)) (EP X pins σ Q) X.xe s
theorem Vals.one:∀{x:V}{us:List Value},Vals [x] us->∃u,us=[u]/\RelV x u
 |_,_,.cons r .nil=>⟨_,rfl,r⟩
theorem Vals.rep {xs:List V}{us:List Value}(h:Vals xs us):∀k:Nat,Vals (List.replicate k xs).flatten (List.replicate k us).flatten
 |0=>.nil
 | k + 1 => by
   rw [List.replicate_succ,List.replicate_succ,List.flatten_cons,List.flatten_cons]
   exact Vals.append h (Vals.rep h k)
theorem foldl_rep (its:List Value):∀(k:Nat) (acc:List Value),
 List.foldl (fun x1 x2=>x1++x2) acc.toArray (List.replicate k its.toArray)=(acc++(List.replicate k its).flatten).toArray
 |0,acc=>by simp
 | k + 1, acc => by
   have e:acc.toArray++its.toArray=(acc++its).toArray:=by simp
   have e2:(acc++its)++(List.replicate k its).flatten=acc++(List.replicate (k+1) its).flatten:=by
    rw [List.replicate_succ,List.flatten_cons,List.append_assoc]
   rw [<- e2,<- foldl_rep its k (acc++its),<- e,List.replicate_succ,List.foldl_cons]
section
variable {X:Cx}{pins:List (Addr×Obj)}{σ:St}{H:Hp}{s:Shared}{l b:Addr}{xs ys zs:List V}
theorem Inv.lset {its its':List Value}{n:Nat}{f:Array Value->Array Value}{t':Nat}(I:Inv X pins σ H s)(hH:H l=some (.lst xs))
 (e:s.heap.get? l=some {cls:=.type "list",data:=.seq its.toArray n}) (hf:f its.toArray=its'.toArray) (hv:Vals ys its') (hz:ys.length<=sizeLine) :
 Inv X pins σ (upd H l (.lst ys)) {s with heap:=s.heap.update l (Obj.mapSeq f),toks:=t'}:=by
 have q:=PySem.IsL.update e f
 rw [hf] at q
 refine I.write (x:=l) (e:=l) (by rw [hH];exact trivial) (.inl rfl) (fun b' u hb hu=>(tql s.heap (Obj.mapSeq f) (Ne.symm hb)).trans hu) ⟨_,q⟩ ?_
 exact ⟨hz,its',_,hv,q⟩
theorem Inv.lnew {its:List Value}{t':Nat}(I:Inv X pins σ H s)(hv:Vals ys its)(hz:ys.length<=sizeLine) :
 Inv X pins σ (upd H s.heap.objs.size (.lst ys)) {s with heap:=s.heap.push {cls:=.type "list",data:=.seq its.toArray},toks:=t'}:=
 I.laid (fun _ _ q=>tqc _ q) (tqg _) ⟨hz,its,0,hv,tqe _ rfl⟩
theorem Inv.fresh (I:Inv X pins σ H s):H s.heap.objs.size=none:=I.hok.fresh (tqg _)
theorem Inv.lstM (I:Inv X pins σ H s)(hH:H l=some (.lst xs)):xs.length<=sizeLine/\∃(its:List Value) (n:Nat),Vals xs its/\xs.length=its.length/\s.heap.get? l=some {cls:=.type "list",data:=.seq its.toArray n}:=by
 obtain ⟨z,its,n,r,e⟩:=I.hok l _ hH
 exact ⟨z,its,n,r,r.length,e⟩
theorem u7 {n:Nat}(h:n<=sizeLine):Builtin.List.listTooLong n=false:=by
 unfold Builtin.List.listTooLong
 exact decide_eq_false (by omega)
end
section
variable {X:Cx}
def DN:V->List V->Hp->VK->Prop:=fun x vs H Q=>∃l xs y,x=.ref l/\vs=[y]/\H l=some (.lst xs)/\xs.length<sizeLine/\Q .non (upd H l (.lst (xs++[y])))
theorem sN:Kw X "list.append" DN:=by
 intro pins s σ H x vs v us Q I rx rv h
 obtain ⟨l,xs,y,rfl,rfl,hH,hz,q⟩:=h
 cases rx
 obtain ⟨u,rfl,ru⟩:=rv.one
 obtain ⟨z,its,n,r,hl,e⟩:=I.lstM hH
 refine call_meets F.slot_list_append ⟨_,e,rfl⟩ F.entry_list_append (F.args_list_append_2 _ _) (PySem.list_append l its.toArray n u (by rw [List.size_toArray];omega)) ⟨e,?_⟩
 refine ⟨.non,_,I.lset (its':=its++[u]) hH e (by simp) (r.append (.cons ru .nil)) ?_,rfl,q⟩
 rw [List.length_append,List.length_singleton]
 omega
def DM:V->List V->Hp->VK->Prop:=fun x vs H Q=>∃l b xs zs,x=.ref l/\vs=[.ref b]/\H l=some (.lst xs)/\H b=some (.lst zs)/\xs.length+zs.length<=sizeLine/\Q .non (upd H l (.lst (xs++zs)))
theorem Kt:Kw X "list.extend" DM:=by
 intro pins s σ H x vs v us Q I rx rv h
 obtain ⟨l,b,xs,zs,rfl,rfl,hH,hB,hz,q⟩:=h
 cases rx
 obtain ⟨u,rfl,ru⟩:=rv.one
 cases ru
 obtain ⟨z,its,n,r,hl,e⟩:=I.lstM hH
 obtain ⟨z2,its2,n2,r2,hl2,e2⟩:=I.lstM hB
 have hsz:its.toArray.size+its2.toArray.size<=sizeLine:=by rw [List.size_toArray,List.size_toArray];omega
 have hlong:¬ (!its.toArray.isEmpty&&Builtin.List.listTooLong (its.toArray.size+its2.toArray.size))=true:=by
  rw [u7 hsz,Bool.and_false]
  exact tqj
 refine call_meets F.slot_list_extend ⟨_,e,rfl⟩ F.entry_list_extend (F.args_list_extend_2 _ _)
  (AutoSeq1.list_extend_list_list_0 l its.toArray n b its2.toArray n2 hlong (by rw [List.size_toArray];omega) (by omega)) ⟨e,e2,?_⟩
 refine ⟨.non,_,I.lset (its':=its++its2) hH e (by simp) (r.append r2) ?_,rfl,q⟩
 rw [List.length_append]
 omega
def La:R2:=fun x y H Q=>∃l b xs zs,x=.ref l/\y=.ref b/\H l=some (.lst xs)/\H b=some (.lst zs)/\xs.length+zs.length<=sizeLine/\∀p,H p=none->Q (.ref p) (upd H p (.lst (xs++zs)))
theorem Gw:cu X (binaryOp .Add) La:=by
 intro pins s σ H x y v u Q I rx ry h
 obtain ⟨l,b,xs,zs,rfl,rfl,hH,hB,hz,q⟩:=h
 cases rx
 cases ry
 obtain ⟨z,its,n,r,hl,e⟩:=I.lstM hH
 obtain ⟨z2,its2,n2,r2,hl2,e2⟩:=I.lstM hB
 refine PySem.P.add_list e e2 ?_ (by rw [List.size_toArray,List.size_toArray];omega)
 have ea:its.toArray++its2.toArray=(its++its2).toArray:=by simp
 rw [ea]
 exact ⟨.ref _,_,I.lnew (t':=s.toks) (r.append r2) (by rw [List.length_append];omega),rfl,q _ I.fresh⟩
def K5:R2:=fun x y H Q=>∃l k xs,x=.ref l/\y=.int k/\H l=some (.lst xs)/\-(2^63)<=k/\k<2^63/\xs.length*k.toNat<=sizeLine/\
 ∀p,H p=none->Q (.ref p) (upd H p (.lst (List.replicate k.toNat xs).flatten))
theorem len_rep {α:Type}(xs:List α)(k:Nat):(List.replicate k xs).flatten.length=k*xs.length:=by
 induction k with
 |zero=>simp
 |succ k ih=>rw [List.replicate_succ,List.flatten_cons,List.length_append,ih,Nat.succ_mul,Nat.add_comm]
theorem Gq:cu X (binaryOp .Mult) K5:=by
 intro pins s σ H x y v u Q I rx ry h
 obtain ⟨l,k,xs,rfl,rfl,hH,h1,h2,hz,q⟩:=h
 cases rx
 obtain ⟨t,rfl⟩:=ry
 obtain ⟨z,its,n,r,hl,e⟩:=I.lstM hH
 have hlen:its.toArray.size*k.toNat<=sizeLine:=by rw [List.size_toArray,<- hl];exact hz
 have hcap:¬ its.toArray.size*k.toNat > (2^63-1) / 8:=by
  have:(sizeLine:Nat)<=(2^63-1) / 8:=by decide
  omega
 have hfit:¬ (!Builtin.List.listFitsIndex k)=true:=by
  rw [fitsIndex_both h1 h2]
  exact tqj
 have hlong:¬ Builtin.List.listTooLong (its.toArray.size*k.toNat)=true:=by
  rw [u7 hlen]
  exact tqj
 have hnew:List.foldl (fun x1 x2=>x1++x2) #[] (List.replicate (if its.toArray.isEmpty=true then 0 else k.toNat) its.toArray)=(List.replicate k.toNat its).flatten.toArray:=by
  have f0:∀m:Nat,List.foldl (fun x1 x2=>x1++x2) #[] (List.replicate m its.toArray)=(List.replicate m its).flatten.toArray:=fun m=>by
   have:=foldl_rep its m []
   rw [List.nil_append] at this
   exact this
  rw [f0]
  cases its with
  |nil=>simp
  |cons a r'=>rw [if_neg (by simp)]
 refine wpAny_binaryOp_repeat_ref (T:="list") (U:="int") (by decide) ⟨_,e,rfl⟩ (fun s'=>typeIs_int s' k t) noFill_list_mul F.fills_int_mul F.slot_int_rmul repeat_list F.slot_int_index.lookup
  (call_meets F.slot_int_rmul (typeIs_int s k t) F.entry_int_rmul (F.args_int_rmul_2 _ _) (int___rmul___int_list k t l its.toArray n)
   ⟨e,rfl,⟨_,e,rfl⟩,call_meets F.slot_list_mul ⟨_,e,rfl⟩ F.entry_list_mul (F.args_list_mul_2 _ _) (AutoListH.list___mul___list_int_3 l its.toArray n k t hfit hcap hlong) ⟨e,?_⟩⟩)
 rw [hnew]
 exact ⟨.ref _,_,I.lnew (t':=s.toks) (r.rep k.toNat) (by rw [len_rep,Nat.mul_comm];exact hz),rfl,q _ I.fresh⟩
end
end L2
namespace Att
open PySem PySem.W PySem.Calls PyProof.Rows
theorem qz {P:Params}{h:Heap}:∀(ns:List Int) (vs:List Value),WellAll P h vs (ns.map WData.int)->IntsAre vs ns:=by
 intro ns
 induction ns with
 | nil =>
   intro vs w
   rw [List.map_nil] at w
   cases w
   exact .nil
 | cons n ns ih =>
   intro vs w
   rw [List.map_cons] at w
   cases w with
   | cons a b =>
     cases a
     exact .cons _ _ (ih _ b)
theorem zc {l:OpenLaw}{n:Nat}(hn:l.most=some n){P:Params}{h:Heap}{args:List WData}{vals:List Value}
 (hpre:l.row.toRowW.claim.pre args=true) (hwl:WellAll P h vals args) :
 ∃a vs ns,vals=[Value.ref a]/\args=[WData.list (ns.map WData.int)]/\h.get? a=some {cls:=.type "list",data:=.seq vs.toArray}/\IntsAre vs ns/\ns.length<=n:=by
 have hsh:WShape.hasAll [] args [.list .int]=true:=(pre_splitW hpre).1
 have hc:l.pre.holds [] {args:=args}=true:=(pre_splitW hpre).2
 obtain ⟨d,r,rfl,h1,h2⟩:=hasAllW_cons hsh
 obtain rfl:=hasAllW_nil h2
 obtain ⟨xs,rfl,h3⟩:=hasW_list h1
 obtain ⟨ns,rfl⟩:=items_int h3
 have hlen:ns.length<=n:=by
  unfold OpenLaw.pre at hc
  have h4:(WTm.not (.lt (.lit (.int (n:Int))) (.len (.arg 0)))).holds [] {args:=[.list (ns.map .int)]}=true:=by
   have h4:=(holds_andW hc).1
   rw [hn] at h4
   exact h4
  have h5:=condW_of h4 (w_not (w_lt w_lit (w_len_list (w_arg rfl))))
  rw [List.length_map] at h5
  refine Nat.le_of_not_lt fun q=>?_
  have q':(n:Int)<((ns.length:Nat):Int):=by omega
  first
   |(rw [decide_eq_true q'] at h5;exact absurd h5 (by decide))
   |(simp at h5;omega)
 cases hwl with
 | cons w1 w2 =>
   cases w2
   cases w1 with
   |list ho hall=>exact ⟨_,_,ns,rfl,rfl,ho,qz ns _ hall,hlen⟩
theorem zi (l:OpenLaw)(args:List WData):l.row.toRowW.claim.post args (.bool true) args=true:=
 postW_of (r:=l.row.toRowW) (X:=(true==true))
  (show WShape.has [] (.bool true) .bool=true by first|rfl|decide|simp [WShape.has,WShape.arms,WShape.armsAll])
  (show (WTm.eq .res (.lit (.bool true))).value [] {args:=args,res:=some (.bool true),after:=args}=some (.bool (true==true)) from w_eq_bool (w_res rfl) w_lit) rfl
theorem attach_call {l:OpenLaw}{n:Nat}{q:Program}{loose:List Str}{XP:(Str->Option Value)->Heap->Prop}{YP:World->Heap->Prop}{d:DefRec}
 (hn:l.most=some n) (hdf:d.params.defaults=[])
 (call:∀(w:World) (s₀ s₁:Shared) (mg mb:Str->Option Value) (fa:Addr) (o:Obj) (pm cd doc:Value) (a:Addr) (vs:List Value) (ns:List Int),
  Ground q loose [] XP w s₀ mg mb s₁.heap->YP w s₁.heap->
  s₁.heap.get? fa=some o->o.data=.func (docDef d.name d.params d.body d.scope pm cd doc)->s₁.heap.CodeRec cd d.name->mg d.name=some (.ref fa)->
  s₁.heap.get? a=some {cls:=.type "list",data:=.seq vs.toArray}->IntsAre vs ns->ns.length<=n->s₁.gens=#[]->
  codeAny (model l.prog w) callerA (.call (.ref fa) ⟨[.ref a],[]⟩) (fun r s'=>r=.ok (.ret (.bool true))/\OldK s₁.heap s'.heap/\s'.os=s₁.os/\AllBare s'.gens) s₁) :
 WalkO q loose XP YP l.row.toRowW d [] (fun f vs=>PySem.call f vs):=by
 intro w s₀ s₁ mg mb G Y fa o pm cd doc dV kV ho hd hcd hD hmg hg args vals as hpre hlay hrd hwl hlo
 obtain rfl:dV=.none:=Dflts.none hD hdf
 obtain rfl:kV=.none:=Dflts.noKw hD
 obtain ⟨a,vs,ns,rfl,rfl,hobj,hints,hlen⟩:=zc hn hpre hwl
 refine enter_call (codeAny_mono (call w s₀ s₁ mg mb fa o pm cd doc a vs ns G Y ho (fd_plain hd) hcd hmg hobj hints hlen hg) fun r s' hq=>?_)
 obtain ⟨rfl,h2,h3,h4⟩:=hq
 exact ⟨.inl ⟨.bool true,.bool true,[],rfl,fun _=>rfl,.bool true,zi l _,fun _=>⟨List.Pairwise.nil,fun _ hm=>(nomatch hm)⟩⟩,h2,h3,h4⟩
end Att
namespace L2
open PySem PySem.Spec PyProof.Rows
theorem sm:∀{vs:List Value}{ns:List Int},IntsAre vs ns->Vals (ns.map V.int) vs
 |_,_,.nil=>.nil
 |_,_,.cons n t h=>.cons ⟨t,rfl⟩ (sm h)
def yv (H:Hp):Prop:=∀b,H b=none\/∃o xs,H b=some (.frz o (.lst xs))
theorem BS {P:Program}{w:World}{K:PySem.W.Frag}{mg mb:Str->Option Value}{CX:oZ}{k:Nat}{fa a:Addr}{fd:FuncData}{x:Str}{sp:Sp}{s₁:Shared}{vs:List Value}{ns:List Int}
 (KX:K.In s₁.heap) (hns:s₁.heap.Ns mainGlobals mg) (hb:s₁.heap.Ns builtinsNs mb) (hbb:∀x:Str,x≠"__name__"->mb x=bootBuiltins x) (hlim:s₁.heap.NoLimit) (hg:s₁.gens=#[])
 (ha:s₁.heap.get? a=some {cls:=.type "list",data:=.seq vs.toArray}) (hi:IntsAre vs ns) (hl:ns.length<=sizeLine) (hr:cy k callerA)
 (F:∀base:Heap,K.In base->base.Ns mainGlobals mg->lR P w K mg base CX k fa fd [x] sp) (hbind:∀(s:Shared) (u:Value),BindsTo s fd ⟨[u],[]⟩ [(x,u)])
 (hsp:∀H:Hp,yv H->dg K H a (ns.map V.int)->sp [.ref a] H (fun v _=>v=.bl true) fun _ _ _=>False)
 (hCX:∀H e s',CX [] H s₁ (fun _ _ _=>False) e s'->False) :
 codeAny (model P w) callerA (.call (.ref fa) ⟨[.ref a],[]⟩) (fun r s'=>r=.ok (.ret (.bool true))/\OldK s₁.heap s'.heap/\s'.os=s₁.os/\AllBare s'.gens) s₁:=by
 have rv:=sm hi
 have lenV:=hi.length
 have core:∀H:Hp,yv H->dg K H a (ns.map V.int)->fb P w H s₁.heap->(∀b,H b≠none->b=a)->(H a≠none->K.lookup a=none)->
  codeAny (model P w) callerA (.call (.ref fa) ⟨[.ref a],[]⟩) (fun r s'=>r=.ok (.ret (.bool true))/\OldK s₁.heap s'.heap/\s'.os=s₁.os/\AllBare s'.gens) s₁:=by
  intro H hO hS hok hA hK
  have base_of:∀{b:Addr}{o:Obj},s₁.heap.get? b=some o->H b=none->(mI s₁.heap H).get? b=some o:=fun e n=>B2 e n
  have noA:∀{b:Addr}{o:Obj}{es:Array DictEntry}{ep:Nat},s₁.heap.get? b=some o->o.data=.dict es ep->H b=none:=fun {b o es ep} e d=>by
   cases q:H b with
   |none=>rfl
   | some u =>
     have e':b=a:=hA b (by rw [q];simp)
     subst e'
     rw [ha] at e;cases e
     have d':Data.seq vs.toArray _=Data.dict es ep:=d
     cases d'
  have nsK:∀{b:Addr}{m:Str->Option Value},s₁.heap.Ns b m->(mI s₁.heap H).Ns b m:=fun {b m} ⟨o,es,ep,e,d,r⟩=>⟨o,es,ep,base_of e (noA e d),d,r⟩
  have hKb:K.In (mI s₁.heap H):=fun b o e=>base_of (KX b o e) (by
   cases q:H b with
   |none=>rfl
   | some u =>
     have e':b=a:=hA b (by rw [q];simp)
     subst e'
     rw [hK (by rw [q];simp)] at e;cases e)
  have hM:Mod K mg (mI s₁.heap H):=⟨hKb,nsK hns,⟨mb,nsK hb,hbb⟩,let ⟨mc,h1,h2⟩:=hlim;⟨mc,nsK h1,h2⟩⟩
  have e0:pP P w K mg (mI s₁.heap H) callerA [] s₁ H:=⟨rfl,hM,fun b o e=>Eb e,Nat.le_of_eq (zW _ _),trivial,fun b hb=>absurd (show b∈([]:List Addr) from hb) (by simp),hok,.of_eq hg⟩
  refine codeAny_mono ((F _ hKb (nsK hns)).run callerA [] s₁ H ⟨[.ref a],[]⟩ [.ref a] [.ref a] _ _ hr e0 (hbind s₁ (.ref a)) (.cons rfl .nil) (hsp H hO hS)) fun r s' h=>?_
  cases r with
  |error e=>exact (hCX H e s' h).elim
  | ok fl =>
    cases fl with
    |next=>exact False.elim h
    |brk=>exact False.elim h
    |cont=>exact False.elim h
    | ret u =>
      obtain ⟨v,H',os,bare,un,hok',r',q⟩:=h
      have q':v=.bl true:=q
      subst q'
      obtain rfl:u=Value.bool true:=r'
      refine ⟨rfl,OldK.of_keep fun b o e=>?_,os,bare⟩
      cases q:H b with
      |none=>exact un.keep b o e q (by intro z;exact absurd (show b∈([]:List Addr) from z) (by simp)) (by simp)
      | some u =>
        rcases hO b with z|⟨ob,xs,z⟩
        ·rw [q] at z;cases z
        ·have z2:=un.frzs b ob _ z
         obtain ⟨e1,_⟩:=hok b _ z
         obtain ⟨e2,_⟩:=hok' b _ z2
         rw [e] at e1;cases e1
         exact e2
 cases hk:K.lookup a with
 | some o =>
   have e:=KX a o hk
   rw [ha] at e
   cases e
   refine core (fun _=>none) (fun _=>.inl rfl) (.inr ⟨_,vs.toArray,_,hk,rfl,rfl,rfl,by rw [List.size_toArray,lenV];exact hl,by simpa using rv⟩) (fun b u z=>by have z':(none:Option HO)=some u:=z;cases z') (fun b z=>absurd rfl z) fun z=>absurd rfl z
 | none =>
   refine core (fun b=>if b=a then some (.frz {cls:=.type "list",data:=.seq vs.toArray} (.lst (ns.map V.int))) else none) (fun b=>?_) (.inl (.inr ⟨{cls:=.type "list",data:=.seq vs.toArray},if_pos rfl⟩)) (fun b u z=>?_) (fun b z=>?_) fun _=>hk
   ·by_cases hb:b=a
    ·exact .inr ⟨_,_,if_pos hb⟩
    ·exact .inl (if_neg hb)
   ·by_cases hb:b=a
    ·have z':=(if_pos hb).symm.trans z
     cases z'
     subst hb
     exact ⟨ha,by rw [List.length_map];exact hl,vs,_,rv,ha⟩
    ·have z':=(if_neg hb).symm.trans z
     cases z'
   ·by_cases hb:b=a
    ·exact hb
    ·exact absurd (if_neg hb) z
end L2
namespace L2
open PySem PySem.Spec PyProof.Rows
theorem Dh {l:PySem.W.OpenLaw}{n k:Nat}{q:Program}{loose:List Str}{XP:(Str->Option Value)->Heap->Prop}{YP:World->Heap->Prop}{d:DefRec}{K:Params->PySem.W.Frag}{CX:World->oZ}{sp:World->Sp}{x:Str}
 (hn:l.most=some n) (hn2:n<=sizeLine) (hdf:d.params.defaults=[]) (hr:cy k callerA)
 (hY:∀(w:World) (h:Heap),YP w h->(K w.params).In h)
 (F:∀(w:World) (mg:Str->Option Value) (fa:Addr) (h:Heap),(K w.params).In h->h.Ns mainGlobals mg->mg d.name=some (.ref fa)->
  ∃fd:FuncData,(∀(s:Shared) (u:Value),BindsTo s fd ⟨[u],[]⟩ [(x,u)])/\
   ∀base:Heap,(K w.params).In base->base.Ns mainGlobals mg->lR l.prog w (K w.params) mg base (CX w) k fa fd [x] (sp w))
 (hsp:∀(w:World) (H:Hp) (a:Addr) (ns:List Int),ns.length<=n->yv H->dg (K w.params) H a (ns.map V.int)->sp w [.ref a] H (fun v _=>v=.bl true) fun _ _ _=>False)
 (hCX:∀(w:World) (H:Hp) (s:Shared) (e:Value) (s':Shared),CX w [] H s (fun _ _ _=>False) e s'->False) :
 PySem.W.WalkO q loose XP YP l.row.toRowW d [] (fun f vs=>PySem.call f vs):=by
 refine Att.attach_call hn hdf fun w s₀ s₁ mg mb fa o pm cd doc a vs ns G Y ho hd hcd hmg hobj hints hlen hg=>?_
 have KX:=hY w _ Y
 obtain ⟨fd,hb,hF⟩:=F w mg fa _ KX G.T.g hmg
 exact BS KX G.T.g G.T.b G.T.builtins G.T.nolimit hg hobj hints (tqh hlen hn2) hr hF hb (fun H hO hS=>hsp w H a ns hlen hO hS) fun H e s'=>hCX w H s₁ e s'
end L2
namespace L2
open PySem PySem.Spec PyProof.Rows
def fT (s:Stmt):Arguments:=match s with
 |.FunctionDef _ a _ _ _ _ _ _ _ _=>a
 |_=>{posonlyargs:=[],args:=[],vararg:=none,kwonlyargs:=[],kw_defaults:=[],kwarg:=none,defaults:=[]}
def dq (s:Stmt):List Stmt:=match s with
 |.FunctionDef _ _ b _ _ _ _ _ _ _=>b
 |_=>[]
def aS (s:Stmt):Scope:=match s with
 |.FunctionDef _ _ _ _ _ _ sc _ _ _=>sc
 |_=>{kind:=.function,names:=[],isGenerator:=false,isCoroutine:=false}
abbrev E0:XK:=fun _ _ _=>False
structure oX (K:PySem.W.Frag) (x qual:Str) (st:Stmt) (f:Addr) (fd:FuncData):Prop where
 ex:∃(oc:Value) (od:Option Addr) (kV doc pm:Value) (an:Option Addr) (cdv ct:Value) (osl:Array (Option Value)),
  fd=PySem.W.fnOf x qual (fT st) (dq st) (aS st) .none kV doc pm an cdv ct/\K.lookup f=some ⟨oc,od,.func fd,osl⟩/\PySem.W.codeIn K cdv qual=true
 kp:PySem.W.keepIn K (.ref f)=true
section
variable {P:Program}{w:World}{K:PySem.W.Frag}{mg:Str->Option Value}{base:Heap}
theorem oX.binds {x qual:Str}{st:Stmt}{f:Addr}{fd:FuncData}{ps:List Str}(F:oX K x qual st f fd)
 (h:∀(kV doc pm:Value) (an:Option Addr) (cdv ct:Value) (us:List Value),us.length=ps.length->bindArgs (PySem.W.fnOf x qual (fT st) (dq st) (aS st) .none kV doc pm an cdv ct) ⟨us,[]⟩=pure (ps.zip us)):Binds K fd ps []:=by
 obtain ⟨oc,od,kV,doc,pm,an,cdv,ct,osl,rfl,lk,hcd⟩:=F.ex
 exact .all (h kV doc pm an cdv ct)
theorem zZ {x qual:Str}{st:Stmt}{f:Addr}{oc:Value}{od an:Option Addr}{osl:Array (Option Value)}{kV doc pm cdv ct:Value}(l:K.lookup f=some ⟨oc,od,.func (PySem.W.fnOf x qual (fT st) (dq st) (aS st) .none kV doc pm an cdv ct),osl⟩)
 (c:PySem.W.codeIn K cdv qual=true) (k:PySem.W.keepIn K (.ref f)=true):oX K x qual st f (PySem.W.fnOf x qual (fT st) (dq st) (aS st) .none kV doc pm an cdv ct):=⟨⟨oc,od,kV,doc,pm,an,cdv,ct,osl,rfl,l,c⟩,k⟩
end
theorem cJ {A:Around}{k:Nat}(hr:cy k A):A.units+1<cLine:=Nat.lt_of_le_of_lt (Nat.add_le_add_left (by decide:1<=64) _) hr.units
end L2
namespace LD
open PySem
inductive D where
 |non|bl (b:Bool)|int (i:Int)|str (x:Str)|tup (ds:List D)|lst (ds:List D)|frz (ds:List D)|cell (k:Nat)|fn (f:Nat)|exc (c:Nat) (p:Option Int)
 deriving Inhabited
abbrev Mem:=List (List D)
abbrev Env:=List (Option D)
inductive Res (α:Type) where
 |ok (a:α) (M:Mem)
 |err (x:D) (M:Mem)
 |bad
def Res.bind {α β:Type}(r:Res α)(f:α->Mem->Res β):Res β:=match r with
 |.ok a M=>f a M
 |.err x M=>.err x M
 |.bad=>.bad
@[simp] theorem Res.bind_ok {α β:Type}(a:α)(M:Mem)(f:α->Mem->Res β):(Res.ok a M).bind f=f a M:=rfl
@[simp] theorem Res.bind_err {α β:Type}(x:D)(M:Mem)(f:α->Mem->Res β):(Res.err x M:Res α).bind f=.err x M:=rfl
@[simp] theorem Res.bind_bad {α β:Type}(f:α->Mem->Res β):(Res.bad:Res α).bind f=.bad:=rfl
inductive pb where
 |add|sub|mul|fdiv|mod|pow
 deriving DecidableEq
inductive ir where
 |eq|ne|lt|le|gt|ge|isN|notN|isin|notin
 deriving DecidableEq
inductive Ty where
 |int|bool|str|tuple|list|own (c:Str)
 deriving DecidableEq
inductive vG where
 |len|tuple|list (m:Bool)|listR (m:Bool)|all|sum|repr
 deriving DecidableEq
inductive dv where
 |one (i:Nat)
 |tup (l:List Nat)
noncomputable def sz:Nat:=16777216
def bT (m:Bool)(ds:List D)(M:Mem):Res D:=if ds.length<=sz then (if m then .ok (.cell M.length) (M++[ds]) else .ok (.lst ds) M) else .bad
def mE (ds:List D)(M:Mem):Res D:=if ds.length<=sz then .ok (.tup ds) M else .bad
def cm (M:Mem):D->Option (List D)
 |.lst ds=>some ds
 |.tup ds=>some ds
 |.frz ds=>some ds
 |.cell k=>M[k]?
 |_=>none
def gi (M:Mem):D->Option (List D)
 |.lst ds=>some ds
 |.frz ds=>some ds
 |.cell k=>M[k]?
 |_=>none
def kW (M:Mem):D->Option (List D)
 |.lst ds=>some ds
 |.cell k=>M[k]?
 |_=>none
def aG:Nat->D->Bool
 |_,.non=>true
 |_,.bl _=>true
 |_,.int _=>true
 |_,.str x=>x.cps.all (· < 0x110000)
 |n+1,.tup ds=>ds.all (aG n)
 |n+1,.lst ds=>ds.all (aG n)
 |0,.tup _=>false
 |0,.lst _=>false
 |_,.frz _=>false
 |_,.cell _=>false
 |_,.fn _=>false
 |_,.exc _ _=>false
mutual
def bC:D->D->Bool
 |.non,.non=>true
 |.bl a,.bl b=>a==b
 |.bl a,.int b=>(if a then 1 else 0)==b
 |.int a,.bl b=>a==(if b then 1 else 0)
 |.int a,.int b=>a==b
 |.str a,.str b=>a==b
 |.tup a,.tup b=>lP a b
 |.lst a,.lst b=>lP a b
 |_,_=>false
def lP:List D->List D->Bool
 |[],[]=>true
 |a::r,b::t=>bC a b&&lP r t
 |[],_::_=>false
 |_::_,[]=>false
end
def ja:D->Bool
 |.str _=>true
 |_=>false
def qH (a b:D):Option Bool:=if ja a&&ja b||aG 64 a&&aG 64 b then some (bC a b) else none
def view (M:Mem):D->D
 | .cell k => match M[k]? with
   |some ds=>.lst ds
   |none=>.cell k
 |.frz ds=>.lst ds
 |d=>d
def cP:Nat->Mem->D->D
 |0,_,d=>d
 | n + 1, M, .cell k => match M[k]? with
   |some ds=>.lst (ds.map (cP n M))
   |none=>.cell k
 |n+1,M,.frz ds=>.lst (ds.map (cP n M))
 |n+1,M,.lst ds=>.lst (ds.map (cP n M))
 |n+1,M,.tup ds=>.tup (ds.map (cP n M))
 |_+1,_,d=>d
def l7 (M:Mem)(a b:D):Option Bool:=match qH (view M a) (view M b) with
 |some r=>some r
 |none=>qH (cP 64 M a) (cP 64 M b)
def lI (M:Mem):D->Option Bool
 |.non=>some false
 |.bl b=>some b
 |.int i=>some (i != 0)
 |.str x=>if x.cps.size<=sz then some (x.cps.size != 0) else none
 |.tup ds=>some (!ds.isEmpty)
 |.lst ds=>some (!ds.isEmpty)
 |.frz ds=>some (!ds.isEmpty)
 |.cell k=>(M[k]?).map fun ds=>!ds.isEmpty
 |.fn _=>none
 |.exc _ _=>none
def bV (n:Nat)(i:Int):Option Nat:=if 0<=i then (if i<n then some i.toNat else none) else if -(n:Int)<=i then some (i+n).toNat else none
def fv (m:Bool)(o:pb)(a b:D)(M:Mem):Res D:=match o,a,b with
 |.add,.int i,.int j=>.ok (.int (i+j)) M
 |.add,.str x,.str y=>if x.cps.size+y.cps.size<=sz then .ok (.str ⟨x.cps++y.cps⟩) M else .bad
 |.add,.tup x,.tup y=>mE (x++y) M
 | .add, a, b => match kW M a, kW M b with
   |some x,some y=>bT m (x++y) M
   |_,_=>.bad
 |.sub,.int i,.int j=>.ok (.int (i-j)) M
 |.mul,.int i,.int j=>if (-(2^64)<i/\i<2^64)\/(-(2^64)<j/\j<2^64) then .ok (.int (i*j)) M else .bad
 |.mul,.tup x,.int j=>if x.length*j.toNat<=sz/\-(2^63)<=j/\j<2^63 then .ok (.tup (List.replicate j.toNat x).flatten) M else .bad
 | .mul, a, .int j => match kW M a with
   |some x=>if x.length*j.toNat<=sz/\-(2^63)<=j/\j<2^63 then bT m (List.replicate j.toNat x).flatten M else .bad
   |none=>.bad
 |.fdiv,.int i,.int j=>if 0<j/\j<1073741824 then .ok (.int (i / j)) M else .bad
 |.mod,.int i,.int j=>if 0<j then .ok (.int (i % j)) M else .bad
 |.pow,.int i,.int j=>if 0<=j/\j<=1000000/\i.natAbs<2^64 then .ok (.int (i^j.toNat)) M else .bad
 |_,_,_=>.bad
def iQ (x:D)(ds:List D):Option Bool:=if aG 64 x&&ds.all (aG 63) then some (ds.any fun y=>bC y x) else none
def km (x y:Str):Bool:=!(Builtin.Str.occurrences y x 0 y.length 1).isEmpty
def jA:D->Bool
 |.non=>true
 |_=>false
def bP (o:ir)(a b:D)(M:Mem):Option Bool:=match o,a,b with
 |.eq,a,b=>l7 M a b
 |.ne,a,b=>(l7 M a b).map (!·)
 |.lt,.int i,.int j=>some (decide (i<j))
 |.le,.int i,.int j=>some (decide (i<=j))
 |.gt,.int i,.int j=>some (decide (j<i))
 |.ge,.int i,.int j=>some (decide (j<=i))
 |.isN,a,.non=>some (jA a)
 |.notN,a,.non=>some (!jA a)
 |.isin,.str x,.str y=>some (km x y)
 |.notin,.str x,.str y=>some (!km x y)
 |.isin,a,b=>(cm M b).bind (iQ (view M a))
 |.notin,a,b=>((cm M b).bind (iQ (view M a))).map (!·)
 |_,_,_=>none
def fq (a i:D)(M:Mem):Option D:=match a,i with
 |.str x,.int i=>if x.cps.size<=sz then (bV x.cps.size i).bind fun j=>(x.cps[j]?).map fun c=>.str ⟨#[c]⟩ else none
 |a,.int i=>(cm M a).bind fun ds=>(bV ds.length i).bind fun j=>ds[j]?
 |_,_=>none
def aV (n d:Nat):D->Option Nat
 |.non=>some d
 |.int v=>some (if v<0 then (v+(n:Int)).toNat else min v.toNat n)
 |_=>none
def cw:Bool->D->Bool
 |true,.int _=>true
 |false,.non=>true
 |_,_=>false
def cut {α:Type}(xs:List α)(lo hi:Nat):List α:=(xs.drop lo).take (hi-lo)
def eG (m:Bool)(a lo hi:D)(M:Mem):Res D:=match a with
 | .tup xs => match aV xs.length 0 lo, aV xs.length xs.length hi with
   |some l,some h=>.ok (.tup (cut xs l h)) M
   |_,_=>.bad
 | a => match gi M a with
   | some xs => match aV xs.length 0 lo, aV xs.length xs.length hi with
     |some l,some h=>bT m (cut xs l h) M
     |_,_=>.bad
   |none=>.bad
def bX (t:Ty):D->Option Bool
 |.non=>some false
 |.bl _=>some (t==.bool||t==.int)
 |.int _=>some (t==.int)
 |.str _=>some (t==.str)
 |.tup _=>some (t==.tuple)
 |.lst _=>some (t==.list)
 |.frz _=>some (t==.list)
 |.cell _=>some (t==.list)
 |.fn _=>none
 |.exc _ _=>none
def boolsOf:List D->Option (List Bool)
 |[]=>some []
 |.bl b::r=>(boolsOf r).map (b::·)
 |_=>none
def intsOf:List D->Option (List Int)
 |[]=>some []
 |.int b::r=>(intsOf r).map (b::·)
 |_=>none
def gv (f:vG)(ds:List D)(M:Mem):Res D:=match f,ds with
 |.len,[.str x]=>if x.cps.size<=sz then .ok (.int x.cps.size) M else .bad
 | .len, [d] => match cm M d with
   |some xs=>.ok (.int xs.length) M
   |none=>.bad
 |.tuple,[.tup xs]=>.ok (.tup xs) M
 | .tuple, [d] => match gi M d with
   |some xs=>.ok (.tup xs) M
   |none=>.bad
 | .list m, [d] => match cm M d with
   |some xs=>bT m xs M
   |none=>.bad
 |.listR m,[.int n]=>if n<2^20 then bT m ((List.range n.toNat).map fun (k:Nat)=>D.int (k:Int)) M else .bad
 | .all, [d] => match gi M d with
   | some xs => match boolsOf xs with
     |some bs=>.ok (.bl (bs.all id)) M
     |none=>.bad
   |none=>.bad
 | .sum, [d] => match gi M d with
   | some xs => match intsOf xs with
     |some is=>.ok (.int is.sum) M
     |none=>.bad
   |none=>.bad
 |_,_=>.bad
def gm:List Nat->List D->Env->Option Env
 |[],[],Z=>some Z
 |i::l,d::ds,Z=>gm l ds (Z.set i (some d))
 |_,_,_=>none
def cX (t:dv)(d:D)(Z:Env):Option Env:=match t,d with
 |.one i,d=>some (Z.set i (some d))
 |.tup l,.tup ds=>gm l ds Z
 |.tup _,_=>none
abbrev Walk:=Mem->Option (List D)
def dn:Nat->List D->List D
 |_,[]=>[]
 |k,d::r=>.tup [.int k,d]::dn (k+1) r
def jQ:List D->List D->List D
 |a::r,b::t=>.tup [a,b]::jQ r t
 |_,_=>[]
def gG:List D->List D->List D->List D
 |a::r,b::t,c::q=>.tup [a,b,c]::gG r t q
 |_,_,_=>[]
def CT {α:Type}(f:α->D->Mem->Res α):List D->α->Mem->Res α
 |[],a,M=>.ok a M
 |d::r,a,M=>(f a d M).bind (CT f r)
def fD {α:Type}(f:α->D->Mem->Res α)(w:Walk):Nat->Nat->α->Mem->Res α
 |0,_,_,_=>.bad
 | n + 1, i, a, M => match w M with
   |none=>.bad
   | some ds => match ds[i]? with
     |none=>.ok a M
     |some d=>(f a d M).bind (fD f w n (i+1))
def dP {α:Type}(f:α->D->Mem->Res α)(w:Walk)(a:α)(M:Mem):Res α:=fD f w (((w M).getD []).length+1) 0 a M
def cZ {α:Type}(M:Mem):Option α->Res α
 |some a=>.ok a M
 |none=>.bad
@[simp] theorem Bx {α:Type}(M:Mem)(a:α):cZ M (some a)=.ok a M:=rfl
@[simp] theorem Lb {α:Type}(M:Mem):(cZ M none:Res α)=.bad:=rfl
inductive Fl where
 |next (Z:Env)
 |ret (d:D)
 |exc (x:D) (Z:Env)
end LD
namespace LD
open PySem PySem.Spec PyProof.Rows L2
structure Mu where
 pub:Nat->Option Addr
 priv:List Addr
def Mu.Mt (μ:Mu)(a:Addr):Prop:=(∃k,μ.pub k=some a)\/a∈μ.priv
abbrev Fa:=Nat->Option Addr
def KL (K:PySem.W.Frag)(a:Addr)(xs:List V):Prop:=
 ∃(o:Obj) (its:Array Value) (n:Nat),K.lookup a=some o/\o.cls=.type "list"/\o.dict=none/\o.data=.seq its n/\its.size<=sizeLine/\Vals xs its.toList
def wV (C:Addr)(dx:Option Addr)(a:Addr)(h:Heap):Prop:=∃o vs,h.get? a=some o/\o.cls=.ref C/\o.dict=dx/\o.data=.fields vs/\1<vs.size
def fU (c:Nat):Str:=if c=1 then "number" else "place"
def yt (H:Hp)(c:Nat)(dx:Option Addr):Option Int->Prop
 |none=>dx=none
 |some i=>∃d,dx=some d/\H d=some (.xd [(fU c,.int i)])
def du (c:Nat):Nat:=1000+c
section
variable (fa:Fa)(K:PySem.W.Frag)(μ:Mu)(H:Hp)
mutual
def Rep:D->V->Prop
 |.non,v=>v=.non
 |.bl b,v=>v=.bl b
 |.int i,v=>v=.int i
 |.str x,v=>v=.str x
 |.tup ds,v=>∃a vs,v=.ref a/\d8 K H a vs/\aX ds vs
 |.lst ds,v=>∃a vs,v=.ref a/\(H a=some (.lst vs)/\¬ μ.Mt a)/\aX ds vs
 |.frz ds,v=>∃a vs,v=.ref a/\((∃ob,H a=some (.frz ob (.lst vs)))\/KL K a vs)/\aX ds vs
 |.cell k,v=>∃a,v=.ref a/\μ.pub k=some a
 |.fn f,v=>∃a,v=.ref a/\fa f=some a
 |.exc c p,v=>∃a C dx,v=.ref a/\fa (du c)=some C/\H a=some (.ext (wV C dx a))/\yt H c dx p
def aX:List D->List V->Prop
 |[],vs=>vs=[]
 |d::ds,vs=>∃v r,vs=v::r/\Rep d v/\aX ds r
end
end
def IsX (o:HO):Prop:=(∃φ,o=.ext φ)\/∃fs,o=.xd fs
structure ExtW (μ:Mu) (H:Hp) (μ':Mu) (H':Hp):Prop where
 mu:∀k a,μ.pub k=some a->μ'.pub k=some a
 tups:∀a vs,Rd H a (.tup vs)->Rd H' a (.tup vs)
 lsts:∀a vs,H a=some (.lst vs)->¬ μ.Mt a->H' a=some (.lst vs)/\¬ μ'.Mt a
 frzs:∀a ob u,H a=some (.frz ob u)->H' a=some (.frz ob u)
 exts:∀a o,IsX o->H a=some o->H' a=some o
structure Ext (μ:Mu) (H:Hp) (μ':Mu) (H':Hp):Prop extends ExtW μ H μ' H' where
 pr:μ'.priv=μ.priv
 pk:∀a∈μ.priv,H' a=H a
theorem ExtW.refl {μ:Mu}{H:Hp}:ExtW μ H μ H:=⟨fun _ _ h=>h,fun _ _ h=>h,fun _ _ h n=>⟨h,n⟩,fun _ _ _ h=>h,fun _ _ _ h=>h⟩
theorem ExtW.trans {μ μ1 μ2:Mu}{H H1 H2:Hp}(a:ExtW μ H μ1 H1)(b:ExtW μ1 H1 μ2 H2):ExtW μ H μ2 H2:=
 ⟨fun k x h=>b.mu k x (a.mu k x h),fun x vs h=>b.tups x vs (a.tups x vs h),fun x vs h n=>b.lsts x vs (a.lsts x vs h n).1 (a.lsts x vs h n).2,fun x ob u h=>b.frzs x ob u (a.frzs x ob u h),fun x o i h=>b.exts x o i (a.exts x o i h)⟩
theorem Ext.refl {μ:Mu}{H:Hp}:Ext μ H μ H:=⟨.refl,rfl,fun _ _=>rfl⟩
theorem Ext.trans {μ μ1 μ2:Mu}{H H1 H2:Hp}(a:Ext μ H μ1 H1)(b:Ext μ1 H1 μ2 H2):Ext μ H μ2 H2:=
 ⟨a.toExtW.trans b.toExtW,b.pr.trans a.pr,fun x hx=>(b.pk x (by rw [a.pr];exact hx)).trans (a.pk x hx)⟩
section
variable {fa:Fa}{K:PySem.W.Frag}{μ μ':Mu}{H H':Hp}
theorem ExtW.sqT {a:Addr}{vs:List V}(x:ExtW μ H μ' H')(h:d8 K H a vs):d8 K H' a vs:=h.elim (fun z=>.inl (x.tups a vs z)) .inr
mutual
theorem Rep.extW (x:ExtW μ H μ' H'):∀{d:D}{v:V},Rep fa K μ H d v->Rep fa K μ' H' d v
 |.non,v,h=>h
 |.bl b,v,h=>h
 |.int i,v,h=>h
 |.str y,v,h=>h
 | .tup ds, v, h => by
   obtain ⟨a,vs,e,s,r⟩:=h
   exact ⟨a,vs,e,x.sqT s,aX.extW x r⟩
 | .lst ds, v, h => by
   obtain ⟨a,vs,e,s,r⟩:=h
   exact ⟨a,vs,e,x.lsts a vs s.1 s.2,aX.extW x r⟩
 | .frz ds, v, h => by
   obtain ⟨a,vs,e,s,r⟩:=h
   exact ⟨a,vs,e,s.elim (fun ⟨ob,z⟩=>.inl ⟨ob,x.frzs a ob _ z⟩) .inr,aX.extW x r⟩
 | .cell k, v, h => by
   obtain ⟨a,e,m⟩:=h
   exact ⟨a,e,x.mu k a m⟩
 |.fn f,v,h=>h
 | .exc c p, v, h => by
   obtain ⟨a,C,dx,e,f,g,n⟩:=h
   refine ⟨a,C,dx,e,f,x.exts _ _ (.inl ⟨_,rfl⟩) g,?_⟩
   cases p with
   |none=>exact n
   |some i=>exact let ⟨d,h1,h2⟩:=n;⟨d,h1,x.exts _ _ (.inr ⟨_,rfl⟩) h2⟩
theorem aX.extW (x:ExtW μ H μ' H'):∀{ds:List D}{vs:List V},aX fa K μ H ds vs->aX fa K μ' H' ds vs
 |[],vs,h=>h
 | d :: ds, vs, h => by
   obtain ⟨v,r,e,p,q⟩:=h
   exact ⟨v,r,e,Rep.extW x p,aX.extW x q⟩
end
theorem Rep.ext (x:Ext μ H μ' H'){d:D}{v:V}(h:Rep fa K μ H d v):Rep fa K μ' H' d v:=Rep.extW x.toExtW h
theorem aX.ext (x:Ext μ H μ' H'){d:List D}{v:List V}(h:aX fa K μ H d v):aX fa K μ' H' d v:=aX.extW x.toExtW h
theorem aX.length:∀{ds:List D}{vs:List V},aX fa K μ H ds vs->vs.length=ds.length
 | [], vs, h => by
   have h:vs=[]:=h
   subst h;rfl
 | d :: ds, vs, h => by
   obtain ⟨v,r,e,p,q⟩:=h
   subst e
   simp [aX.length q]
theorem aX.get:∀{ds:List D}{vs:List V}{i:Nat}{d:D},aX fa K μ H ds vs->ds[i]?=some d->∃v,vs[i]?=some v/\Rep fa K μ H d v
 |[],_,_,_,_,e=>by simp at e
 | d :: ds, vs, 0, d', h, e => by
   obtain ⟨v,r,rfl,p,q⟩:=h
   simp at e;subst e
   exact ⟨v,rfl,p⟩
 | d :: ds, vs, i + 1, d', h, e => by
   obtain ⟨v,r,rfl,p,q⟩:=h
   obtain ⟨u,h1,h2⟩:=aX.get (i:=i) q (by simpa using e)
   exact ⟨u,by simpa using h1,h2⟩
theorem aX.append:∀{ds es:List D}{vs ws:List V},aX fa K μ H ds vs->aX fa K μ H es ws->aX fa K μ H (ds++es) (vs++ws)
 | [], _, vs, _, h, g => by
   have h:vs=[]:=h
   subst h;exact g
 | d :: ds, es, vs, ws, h, g => by
   obtain ⟨v,r,rfl,p,q⟩:=h
   exact ⟨v,r++ws,rfl,p,aX.append q g⟩
theorem aX.one {d:D}{v:V}(h:Rep fa K μ H d v):aX fa K μ H [d] [v]:=⟨v,[],rfl,h,rfl⟩
theorem aX.drop:∀(n:Nat) {ds:List D}{vs:List V},aX fa K μ H ds vs->aX fa K μ H (ds.drop n) (vs.drop n)
 |0,_,_,h=>h
 | n + 1, [], vs, h => by
   have h:vs=[]:=h
   subst h;exact rfl
 | n + 1, d :: ds, vs, h => by
   obtain ⟨v,r,rfl,p,q⟩:=h
   exact aX.drop n q
theorem aX.take:∀(n:Nat) {ds:List D}{vs:List V},aX fa K μ H ds vs->aX fa K μ H (ds.take n) (vs.take n)
 |0,_,_,h=>rfl
 | n + 1, [], vs, h => by
   have h:vs=[]:=h
   subst h;exact rfl
 | n + 1, d :: ds, vs, h => by
   obtain ⟨v,r,rfl,p,q⟩:=h
   exact ⟨v,r.take n,rfl,p,aX.take n q⟩
theorem aX.set:∀(n:Nat) {ds:List D}{vs:List V}{d:D}{v:V},aX fa K μ H ds vs->Rep fa K μ H d v->aX fa K μ H (ds.set n d) (vs.set n v)
 | _, [], vs, _, _, h, _ => by
   have h:vs=[]:=h
   subst h;exact rfl
 | 0, d :: ds, vs, _, v', h, g => by
   obtain ⟨v,r,rfl,p,q⟩:=h
   exact ⟨v',r,rfl,g,q⟩
 | n + 1, d :: ds, vs, _, v', h, g => by
   obtain ⟨v,r,rfl,p,q⟩:=h
   exact ⟨v,r.set n v',rfl,p,aX.set n q g⟩
theorem aX.reverse:∀{ds:List D}{vs:List V},aX fa K μ H ds vs->aX fa K μ H ds.reverse vs.reverse
 | [], vs, h => by
   have h:vs=[]:=h
   subst h;exact rfl
 | d :: ds, vs, h => by
   obtain ⟨v,r,rfl,p,q⟩:=h
   rw [List.reverse_cons,List.reverse_cons]
   exact aX.append (aX.reverse q) (.one p)
theorem aX.rep:∀(n:Nat) {ds:List D}{vs:List V},aX fa K μ H ds vs->aX fa K μ H (List.replicate n ds).flatten (List.replicate n vs).flatten
 |0,_,_,_=>rfl
 | n + 1, ds, vs, h => by
   rw [List.replicate_succ,List.replicate_succ,List.flatten_cons,List.flatten_cons]
   exact h.append (aX.rep n h)
theorem aX.ints:∀(ns:List Int),aX fa K μ H (ns.map D.int) (ns.map V.int)
 |[]=>rfl
 |n::ns=>⟨.int n,ns.map V.int,rfl,rfl,aX.ints ns⟩
end
structure RelM (fa:Fa) (K:PySem.W.Frag) (μ:Mu) (H:Hp) (M:Mem):Prop where
 at':∀(k:Nat) (ds:List D),M[k]?=some ds->∃a vs,μ.pub k=some a/\H a=some (.lst vs)/\aX fa K μ H ds vs
 out:∀(k:Nat),M.length<=k->μ.pub k=none
 inj:∀j k a,μ.pub j=some a->μ.pub k=some a->j=k
 pv:∀a∈μ.priv,(∃vs,H a=some (.lst vs))/\∀k,μ.pub k≠some a
structure bK (fa:Fa) (K:PySem.W.Frag) (μ:Mu) (H:Hp) (σ:L2.St) (Z:Env):Prop where
 len:σ.length=Z.length
 at':∀(i:Nat) (d:D),Z[i]?=some (some d)->∃v,σ[i]?=some (some v)/\Rep fa K μ H d v
section
variable {fa:Fa}{K:PySem.W.Frag}{μ μ':Mu}{H H':Hp}{σ:L2.St}{Z:Env}{M:Mem}
theorem bK.ext (h:bK fa K μ H σ Z)(x:Ext μ H μ' H'):bK fa K μ' H' σ Z:=
 ⟨h.len,fun i d e=>let ⟨v,h1,h2⟩:=h.at' i d e;⟨v,h1,h2.ext x⟩⟩
theorem bK.set (h:bK fa K μ H σ Z){i:Nat}{d:D}{v:V}(r:Rep fa K μ H d v):bK fa K μ H (σ.set i (some v)) (Z.set i (some d)):=by
 refine ⟨by simp [h.len],fun j d' e=>?_⟩
 by_cases hj:j=i
 ·subst hj
  have hl:j<Z.length:=by
   have:=(List.getElem?_eq_some_iff.mp e).1
   simpa using this
  rw [List.getElem?_set_self hl] at e
  cases e
  exact ⟨v,List.getElem?_set_self (by rw [h.len];exact hl),r⟩
 ·rw [List.getElem?_set_ne (Ne.symm hj)] at e
  obtain ⟨u,h1,h2⟩:=h.at' j d' e
  exact ⟨u,by rw [List.getElem?_set_ne (Ne.symm hj)];exact h1,h2⟩
theorem bK.extW (h:bK fa K μ H σ Z)(x:ExtW μ H μ' H'):bK fa K μ' H' σ Z:=
 ⟨h.len,fun i d e=>let ⟨v,h1,h2⟩:=h.at' i d e;⟨v,h1,h2.extW x⟩⟩
theorem RelM.mu_lt (h:RelM fa K μ H M){k:Nat}{a:Addr}(e:μ.pub k=some a):∃ds vs,M[k]?=some ds/\H a=some (.lst vs)/\aX fa K μ H ds vs:=by
 by_cases hk:k<M.length
 ·obtain ⟨a',vs,h1,h2,h3⟩:=h.at' k M[k] (by simp [hk])
  rw [e] at h1;cases h1
  exact ⟨_,vs,by simp [hk],h2,h3⟩
 ·rw [h.out k (by omega)] at e;cases e
theorem RelM.fresh (h:RelM fa K μ H M){p:Addr}(hp:H p=none):¬ μ.Mt p:=fun e=>by
 rcases e with ⟨k,e⟩|e
 ·obtain ⟨ds,vs,_,h2,_⟩:=h.mu_lt e
  rw [hp] at h2;cases h2
 ·obtain ⟨⟨vs,h2⟩,_⟩:=h.pv p e
  rw [hp] at h2;cases h2
theorem RelM.pne (h:RelM fa K μ H M){p a:Addr}(hp:H p=none)(ha:a∈μ.priv):a≠p:=fun e=>by
 obtain ⟨⟨vs,h2⟩,_⟩:=h.pv a ha
 rw [e,hp] at h2;cases h2
theorem Ext.alloc {p:Addr}{o:HO}(h:RelM fa K μ H M)(hp:H p=none):Ext μ H μ (upd H p o):=by
 have rd:∀a u,Rd H a u->Rd (upd H p o) a u:=fun a u h=>by
  rcases h with h|⟨ob,h⟩
  ·exact .inl (by rw [aP (br h hp)];exact h)
  ·exact .inr ⟨ob,by rw [aP (br h hp)];exact h⟩
 exact ⟨⟨fun _ _ h=>h,fun a vs h=>rd a _ h,fun a vs h n=>⟨by rw [aP (br h hp)];exact h,n⟩,fun a ob u h=>by rw [aP (br h hp)];exact h,fun a o _ h=>by rw [aP (br h hp)];exact h⟩,rfl,fun a ha=>by rw [aP (h.pne hp ha)]⟩
theorem RelM.alloc (h:RelM fa K μ H M){p:Addr}{o:HO}(hp:H p=none):RelM fa K μ (upd H p o) M:=
 ⟨fun k ds e=>let ⟨a,vs,h1,h2,h3⟩:=h.at' k ds e;⟨a,vs,h1,by rw [aP (br h2 hp)];exact h2,h3.ext (Ext.alloc h hp)⟩,h.out,h.inj,fun a ha=>⟨let ⟨⟨vs,e⟩,_⟩:=h.pv a ha;⟨vs,by rw [aP (h.pne hp ha)];exact e⟩,(h.pv a ha).2⟩⟩
def gL (μ:Mu)(n:Nat)(p:Addr):Mu:=⟨fun k=>if k=n then some p else μ.pub k,μ.priv⟩
theorem Ext.cell {p:Addr}{o:HO}(h:RelM fa K μ H M)(hp:H p=none):Ext μ H (gL μ M.length p) (upd H p o):=by
 have rd:∀a u,Rd H a u->Rd (upd H p o) a u:=fun a u h=>by
  rcases h with h|⟨ob,h⟩
  ·exact .inl (by rw [aP (br h hp)];exact h)
  ·exact .inr ⟨ob,by rw [aP (br h hp)];exact h⟩
 refine ⟨⟨fun k a e=>?_,fun a vs g=>rd a _ g,fun a vs g n=>⟨by rw [aP (br g hp)];exact g,fun e=>?_⟩,fun a ob u h=>by rw [aP (br h hp)];exact h,fun a o _ h=>by rw [aP (br h hp)];exact h⟩,rfl,fun a ha=>by rw [aP (h.pne hp ha)]⟩
 ·show (if k=M.length then some p else μ.pub k)=some a
  split
  ·next q=>rw [q,h.out _ (tqg _)] at e;cases e
  ·exact e
 ·rcases e with ⟨k,e⟩|e
  ·have e:(if k=M.length then some p else μ.pub k)=some a:=e
   split at e
   ·cases e;exact br g hp rfl
   ·exact n (.inl ⟨k,e⟩)
  ·exact n (.inr e)
theorem RelM.cell (h:RelM fa K μ H M){p:Addr}{ds:List D}{vs:List V}(hp:H p=none)(r:aX fa K μ H ds vs) :
 RelM fa K (gL μ M.length p) (upd H p (.lst vs)) (M++[ds]):=by
 have x:Ext μ H (gL μ M.length p) (upd H p (.lst vs)):=Ext.cell h hp
 have np:=h.fresh hp
 refine ⟨fun k ds' e=>?_,fun k hk=>?_,fun j k a h1 h2=>?_,fun a ha=>?_⟩
 ·by_cases hk:k<M.length
  ·rw [List.getElem?_append_left hk] at e
   obtain ⟨a,ws,h1,h2,h3⟩:=h.at' k ds' e
   exact ⟨a,ws,x.mu k a h1,by rw [aP (br h2 hp)];exact h2,h3.ext x⟩
  ·have hk':k=M.length:=by
    have:=(List.getElem?_eq_some_iff.mp e).1
    simp at this;omega
   subst hk'
   rw [List.getElem?_append_right (tqg _)] at e
   simp at e
   subst e
   exact ⟨p,vs,by simp [gL],cb,r.ext x⟩
 ·simp at hk
  show (if k=M.length then some p else μ.pub k)=none
  rw [if_neg (by omega)]
  exact h.out k (by omega)
 ·have h1:(if j=M.length then some p else μ.pub j)=some a:=h1
  have h2:(if k=M.length then some p else μ.pub k)=some a:=h2
  split at h1<;>split at h2
  ·omega
  ·cases h1;exact absurd (.inl ⟨k,h2⟩) np
  ·cases h2;exact absurd (.inl ⟨j,h1⟩) np
  ·exact h.inj j k a h1 h2
 ·obtain ⟨⟨ws,e⟩,n⟩:=h.pv a ha
  refine ⟨⟨ws,by rw [aP (h.pne hp ha)];exact e⟩,fun k e2=>?_⟩
  have e2:(if k=M.length then some p else μ.pub k)=some a:=e2
  split at e2
  ·cases e2;exact h.pne hp ha rfl
  ·exact n k e2
theorem ExtW.write {a:Addr}{vs ws:List V}(h2:H a=some (.lst vs))(e:μ.Mt a):ExtW μ H μ (upd H a (.lst ws)):=by
 have ne:∀b u,Rd H b u->(∀xs,u≠.lst xs)->b≠a:=fun b u g nu q=>by
  subst q
  rcases g with g|⟨ob,g⟩
  ·rw [h2] at g;cases g;exact nu _ rfl
  ·rw [h2] at g;cases g
 have rd:∀b u,b≠a->Rd H b u->Rd (upd H a (.lst ws)) b u:=fun b u nb g=>by
  rcases g with g|⟨ob,g⟩
  ·exact .inl (by rw [aP nb];exact g)
  ·exact .inr ⟨ob,by rw [aP nb];exact g⟩
 exact ⟨fun _ _ q=>q,fun b us g=>rd b _ (ne b _ g (fun xs q=>by cases q)) g,fun b us g n=>⟨by rw [aP (fun q=>n (by rw [q];exact e))];exact g,n⟩,fun b ob u g=>by rw [aP (fun q=>by rw [q,h2] at g;cases g)];exact g,fun b o i g=>by rw [aP (fun q=>by rw [q,h2] at g;cases g;rcases i with ⟨_,i⟩|⟨_,i⟩<;>cases i)];exact g⟩
theorem Ext.write {k:Nat}{a:Addr}{vs ws:List V}(h:RelM fa K μ H M)(e:μ.pub k=some a):Ext μ H μ (upd H a (.lst ws)):=by
 obtain ⟨ds,vs,_,h2,_⟩:=h.mu_lt e
 exact ⟨ExtW.write h2 (.inl ⟨k,e⟩),rfl,fun b hb=>by rw [aP (fun q=>(h.pv b hb).2 k (by rw [q];exact e))]⟩
theorem RelM.write (h:RelM fa K μ H M){k:Nat}{a:Addr}{ds:List D}{ws:List V}(e:μ.pub k=some a)(r:aX fa K μ H ds ws):RelM fa K μ (upd H a (.lst ws)) (M.set k ds):=by
 have x:Ext μ H μ (upd H a (.lst ws)):=Ext.write (vs:=ws) h e
 refine ⟨fun j es q=>?_,fun j hj=>h.out j (by simpa using hj),h.inj,fun b hb=>⟨let ⟨⟨vs,g⟩,_⟩:=h.pv b hb;⟨vs,by rw [x.pk b hb];exact g⟩,(h.pv b hb).2⟩⟩
 by_cases hj:j=k
 ·subst hj
  have hl:j<M.length:=by have:=(List.getElem?_eq_some_iff.mp q).1;simpa using this
  rw [List.getElem?_set_self hl] at q
  cases q
  exact ⟨a,ws,e,cb,r.ext x⟩
 ·rw [List.getElem?_set_ne (Ne.symm hj)] at q
  obtain ⟨b,vs,h1,h2,h3⟩:=h.at' j es q
  have nb:b≠a:=fun z=>hj (h.inj j k a (z ▸ h1) e)
  exact ⟨b,vs,h1,by rw [aP nb];exact h2,h3.ext x⟩
end
def aj {α:Type}(r:Res α)(k:α->Mem->Prop):Prop:=match r with
 |.ok a M=>k a M
 |_=>False
theorem a9 {α β:Type}{r:Res α}{f:α->Mem->Res β}{k:β->Mem->Prop}(h:aj (r.bind f) k):∃a M,r=.ok a M/\aj (f a M) k:=by
 cases r with
 |ok a M=>exact ⟨a,M,rfl,h⟩
 |err=>exact h.elim
 |bad=>exact h.elim
theorem om {α:Type}{M:Mem}{o:Option α}{k:α->Mem->Prop}(h:aj (cZ M o) k):∃a,o=some a/\k a M:=by
 cases o with
 |none=>exact h.elim
 |some a=>exact ⟨a,rfl,h⟩
theorem bo {α:Type}{r:Res α}{k k':α->Mem->Prop}(h:aj r k)(m:∀a M,k a M->k' a M):aj r k':=by
 cases r with
 |ok a M=>exact m a M h
 |err=>exact h
 |bad=>exact h
section
variable (fa:Fa)(K:PySem.W.Frag)
def bH (μ:Mu)(H:Hp)(Q:VK)(d:D)(M':Mem):Prop:=∀v H' μ',Ext μ H μ' H'->RelM fa K μ' H' M'->Rep fa K μ' H' d v->Q v H'
def tE (g:Env->Mem->Res D):TE:=fun σ H Q=>∃μ Z M,bK fa K μ H σ Z/\RelM fa K μ H M/\aj (g Z M) (bH fa K μ H Q)
def tT (g:Env->Mem->Res Bool):TT:=fun σ H Q=>∃μ Z M,bK fa K μ H σ Z/\RelM fa K μ H M/\aj (g Z M) fun b M'=>∀H' μ',Ext μ H μ' H'->RelM fa K μ' H' M'->Q b H'
def tA (g:Env->Mem->Res (List D)):TA:=fun σ H Q=>∃μ Z M,bK fa K μ H σ Z/\RelM fa K μ H M/\aj (g Z M) fun ds M'=>∀vs H' μ',Ext μ H μ' H'->RelM fa K μ' H' M'->aX fa K μ' H' ds vs->Q vs H'
end
def n8 (New:Addr->Prop)(C:Addr)(dx:Option Addr)(a:Addr)(h:Heap)(H:Hp):Prop:=New a/\H a=none/\∃o vs,h.get? a=some o/\o.cls=.ref C/\o.dict=dx/\o.data=.fields vs/\
 (vs[1]?=some .none\/∃T oT ts,vs[1]?=some (.ref T)/\T≠a/\New T/\H T=none/\h.get? T=some oT/\oT.data=.fields ts/\ts[3]?=some .none)
def n6 (X:Cx)(b:Addr):Prop:=X.s₀.heap.get? b=none/\∀p∈X.pn,p.1≠b
def XW (fa:Fa)(X:Cx)(μ:Mu)(H:Hp)(x:D)(Z:Env)(M:Mem):Prop:=∀pins σ' H' μ' s' a C dx c p,Inv X pins σ' H' s'->Ext μ H μ' H'->bK fa X.K μ' H' σ' Z->RelM fa X.K μ' H' M->x=.exc c p->fa (du c)=some C->yt H' c dx p->n8 (n6 X) C dx a s'.heap H'->X.xe (.ref a) s'
def oY (fa:Fa)(X:Cx)(μ:Mu)(H:Hp)(D:Ends):Fl->Mem->Prop
 |.next ρ',M'=>∀σ' H' μ',Ext μ H μ' H'->bK fa X.K μ' H' σ' ρ'->RelM fa X.K μ' H' M'->D.nx σ' H'
 |.ret d,M'=>bH fa X.K μ H D.rt d M'
 |.exc x ρ',M'=>XW fa X μ H x ρ' M'
def tF (fa:Fa)(X:Cx)(g:Env->Mem->Res Fl):TS:=fun D σ H=>∃μ Z M,bK fa X.K μ H σ Z/\RelM fa X.K μ H M/\aj (g Z M) (oY fa X μ H D)
theorem XW.ext {fa:Fa}{X:Cx}{μ μ':Mu}{H H':Hp}{x:D}{Z:Env}{M:Mem}(h:XW fa X μ H x Z M)(y:Ext μ H μ' H'):XW fa X μ' H' x Z M:=fun pins σ1 H1 μ1 s1 a C dx c p I e=>h pins σ1 H1 μ1 s1 a C dx c p I (y.trans e)
section
variable {fa:Fa}{K:PySem.W.Frag}{μ μ':Mu}{H H':Hp}{Q:VK}
theorem bH.ext {d:D}{M:Mem}(h:bH fa K μ H Q d M)(x:Ext μ H μ' H'):bH fa K μ' H' Q d M:=fun v H'' μ'' y m r=>h v H'' μ'' (x.trans y) m r
theorem lV {r:Res D}(h:aj r (bH fa K μ H Q))(x:Ext μ H μ' H'):aj r (bH fa K μ' H' Q):=bo h fun _ _ w=>w.ext x
end
theorem cn {X:Cx}{e:Expr}{t t':TE}(h:PE X e t)(i:∀σ H Q,t' σ H Q->t σ H Q):PE X e t':=fun pins s σ H Q I q=>h pins s σ H Q I (i σ H Q q)
theorem nE {X:Cx}{e:Expr}{t t':TT}(h:PT X e t)(i:∀σ H Q,t' σ H Q->t σ H Q):PT X e t':=fun pins s σ H Q I q=>h pins s σ H Q I (i σ H Q q)
theorem zh {X:Cx}{e:Expr}{t t':TT}(h:PW X e t)(i:∀σ H Q,t' σ H Q->t σ H Q):PW X e t':=fun w pins s σ H Q I q=>h w pins s σ H Q I (i σ H Q q)
theorem zu {X:Cx}{e:List Expr}{t t':TA}(h:PA X e t)(i:∀σ H Q,t' σ H Q->t σ H Q):PA X e t':=fun pos pins s σ H Q I q=>h pos pins s σ H Q I (i σ H Q q)
theorem iK {X:Cx}{e:Stmt}{t t':TS}(h:PS X e t)(i:∀D σ H,t' D σ H->t D σ H):PS X e t':=fun pins s σ H D I q=>h pins s σ H D I (i D σ H q)
theorem wj {X:Cx}{e:List Stmt}{t t':TS}(h:n5 X e t)(i:∀D σ H,t' D σ H->t D σ H):n5 X e t':=fun pins s σ H D I q=>h pins s σ H D I (i D σ H q)
section
variable {fa:Fa}{K:PySem.W.Frag}{μ:Mu}{H:Hp}{σ:L2.St}{Z:Env}{M:Mem}
theorem t1 {g:Env->Mem->Res D}{β:Type}{f:D->Mem->Res β}{P:β->Mem->Prop}{R:V->Hp->Prop}(hE:bK fa K μ H σ Z)(hM:RelM fa K μ H M)(h:aj ((g Z M).bind f) P)
 (k:∀x M1 v H1 μ1,Ext μ H μ1 H1->bK fa K μ1 H1 σ Z->RelM fa K μ1 H1 M1->Rep fa K μ1 H1 x v->aj (f x M1) P->R v H1):tE fa K g σ H R:=by
 obtain ⟨x,M1,e,q⟩:=a9 h
 refine ⟨μ,Z,M,hE,hM,?_⟩
 rw [e]
 exact fun v H1 μ1 x1 m1 r1=>k x M1 v H1 μ1 x1 (hE.ext x1) m1 r1 q
theorem yQ {g:Env->Mem->Res Bool}{β:Type}{f:Bool->Mem->Res β}{P:β->Mem->Prop}{R:Bool->Hp->Prop}(hE:bK fa K μ H σ Z)(hM:RelM fa K μ H M)(h:aj ((g Z M).bind f) P)
 (k:∀b M1 H1 μ1,Ext μ H μ1 H1->bK fa K μ1 H1 σ Z->RelM fa K μ1 H1 M1->aj (f b M1) P->R b H1):tT fa K g σ H R:=by
 obtain ⟨b,M1,e,q⟩:=a9 h
 refine ⟨μ,Z,M,hE,hM,?_⟩
 rw [e]
 exact fun H1 μ1 x1 m1=>k b M1 H1 μ1 x1 (hE.ext x1) m1 q
theorem ur {g:Env->Mem->Res (List D)}{β:Type}{f:List D->Mem->Res β}{P:β->Mem->Prop}{R:List V->Hp->Prop}(hE:bK fa K μ H σ Z)(hM:RelM fa K μ H M)(h:aj ((g Z M).bind f) P)
 (k:∀ds M1 vs H1 μ1,Ext μ H μ1 H1->bK fa K μ1 H1 σ Z->RelM fa K μ1 H1 M1->aX fa K μ1 H1 ds vs->aj (f ds M1) P->R vs H1):tA fa K g σ H R:=by
 obtain ⟨ds,M1,e,q⟩:=a9 h
 refine ⟨μ,Z,M,hE,hM,?_⟩
 rw [e]
 exact fun v H1 μ1 x1 m1 r1=>k ds M1 v H1 μ1 x1 (hE.ext x1) m1 r1 q
end
end LD
namespace LD
open PySem PySem.Spec PyProof.Rows L2
mutual
def toPy:D->PyData
 |.non=>.none
 |.bl b=>.bool b
 |.int i=>.int i
 |.str x=>.str x
 |.tup ds=>.tuple (bS ds)
 |.lst ds=>.list (bS ds)
 |.frz _=>.none
 |.cell _=>.none
 |.fn _=>.none
 |.exc _ _=>.none
def bS:List D->List PyData
 |[]=>[]
 |d::r=>toPy d::bS r
end
theorem og:∀(n:Nat) (d:D),aG n d=true->(toPy d).canLay0=true/\(toPy d).depth<=n:=by
 have all:∀(n:Nat),(∀d,aG n d=true->(toPy d).canLay0=true/\(toPy d).depth<=n)->∀ds:List D,ds.all (aG n)=true->PyData.canLayAll0 (bS ds)=true/\PyData.depthAll (bS ds)<=n:=by
  intro n h ds
  induction ds with
  |nil=>intro _;simp [bS,PyData.canLayAll0,PyData.depthAll]
  | cons d r ih =>
    intro q
    simp only [List.all_cons,Bool.and_eq_true] at q
    obtain ⟨h1,h2⟩:=h d q.1
    obtain ⟨h3,h4⟩:=ih q.2
    simp only [bS,PyData.canLayAll0,PyData.depthAll,h1,h3,Bool.and_self,true_and]
    omega
 intro n
 induction n with
 | zero =>
   intro d h
   cases d with
   |str x=>exact ⟨by simpa [toPy,PyData.canLay0,PyData.strOk,aG] using h,by simp [toPy,PyData.depth]⟩
   |tup _=>simp [aG] at h
   |lst _=>simp [aG] at h
   |frz _=>simp [aG] at h
   |cell _=>simp [aG] at h
   |fn _=>simp [aG] at h
   |exc y p=>simp [aG] at h
   |_=>exact ⟨by simp [toPy,PyData.canLay0],by simp [toPy,PyData.depth]⟩
 | succ n ih =>
   intro d h
   cases d with
   |str x=>exact ⟨by simpa [toPy,PyData.canLay0,PyData.strOk,aG] using h,by simp [toPy,PyData.depth]⟩
   | tup ds =>
     obtain ⟨h1,h2⟩:=all n ih ds (by simpa [aG] using h)
     simp only [toPy,PyData.canLay0,PyData.depth,h1,true_and]
     omega
   | lst ds =>
     obtain ⟨h1,h2⟩:=all n ih ds (by simpa [aG] using h)
     simp only [toPy,PyData.canLay0,PyData.depth,h1,true_and]
     omega
   |frz _=>simp [aG] at h
   |cell _=>simp [aG] at h
   |fn _=>simp [aG] at h
   |exc y p=>simp [aG] at h
   |_=>exact ⟨by simp [toPy,PyData.canLay0],by simp [toPy,PyData.depth]⟩
theorem lr {d:D}(h:aG 64 d=true):SeqAt.shaped (toPy d)=true:=by
 obtain ⟨h1,h2⟩:=og 64 d h
 simp [SeqAt.shaped,h1,h2]
mutual
theorem oA:∀(n m:Nat) (a b:D),aG n a=true->aG m b=true->PyData.eqv (toPy a) (toPy b)=bC a b
 | n, m, .tup a, .tup b, ha, hb => by
   cases n with
   |zero=>simp [aG] at ha
   | succ n =>
     cases m with
     |zero=>simp [aG] at hb
     | succ m =>
       simp only [toPy,PyData.eqv,bC]
       exact pL n m a b (by simpa [aG] using ha) (by simpa [aG] using hb)
 | n, m, .lst a, .lst b, ha, hb => by
   cases n with
   |zero=>simp [aG] at ha
   | succ n =>
     cases m with
     |zero=>simp [aG] at hb
     | succ m =>
       simp only [toPy,PyData.eqv,bC]
       exact pL n m a b (by simpa [aG] using ha) (by simpa [aG] using hb)
 |n,m,.frz _,_,ha,hb=>by cases n<;>simp [aG] at ha
 |n,m,.cell _,_,ha,hb=>by cases n<;>simp [aG] at ha
 |n,m,.fn _,_,ha,hb=>by cases n<;>simp [aG] at ha
 |n,m,.exc _ _,_,ha,hb=>by cases n<;>simp [aG] at ha
 |n,m,_,.frz _,ha,hb=>by cases m<;>simp [aG] at hb
 |n,m,_,.cell _,ha,hb=>by cases m<;>simp [aG] at hb
 |n,m,_,.fn _,ha,hb=>by cases m<;>simp [aG] at hb
 |n,m,_,.exc _ _,ha,hb=>by cases m<;>simp [aG] at hb
 |_,_,.non,.non,_,_=>by simp [toPy,PyData.eqv,bC]
 |_,_,.non,.bl _,_,_=>by simp [toPy,PyData.eqv,bC]
 |_,_,.non,.int _,_,_=>by simp [toPy,PyData.eqv,bC]
 |_,_,.non,.str _,_,_=>by simp [toPy,PyData.eqv,bC]
 |_,_,.non,.tup _,_,_=>by simp [toPy,PyData.eqv,bC]
 |_,_,.non,.lst _,_,_=>by simp [toPy,PyData.eqv,bC]
 |_,_,.bl _,.non,_,_=>by simp [toPy,PyData.eqv,bC]
 |_,_,.bl _,.bl _,_,_=>by simp [toPy,PyData.eqv,bC]
 |_,_,.bl _,.int _,_,_=>by simp [toPy,PyData.eqv,bC]
 |_,_,.bl _,.str _,_,_=>by simp [toPy,PyData.eqv,bC]
 |_,_,.bl _,.tup _,_,_=>by simp [toPy,PyData.eqv,bC]
 |_,_,.bl _,.lst _,_,_=>by simp [toPy,PyData.eqv,bC]
 |_,_,.int _,.non,_,_=>by simp [toPy,PyData.eqv,bC]
 |_,_,.int _,.bl _,_,_=>by simp [toPy,PyData.eqv,bC]
 |_,_,.int _,.int _,_,_=>by simp [toPy,PyData.eqv,bC]
 |_,_,.int _,.str _,_,_=>by simp [toPy,PyData.eqv,bC]
 |_,_,.int _,.tup _,_,_=>by simp [toPy,PyData.eqv,bC]
 |_,_,.int _,.lst _,_,_=>by simp [toPy,PyData.eqv,bC]
 |_,_,.str _,.non,_,_=>by simp [toPy,PyData.eqv,bC]
 |_,_,.str _,.bl _,_,_=>by simp [toPy,PyData.eqv,bC]
 |_,_,.str _,.int _,_,_=>by simp [toPy,PyData.eqv,bC]
 |_,_,.str _,.str _,_,_=>by simp [toPy,PyData.eqv,bC]
 |_,_,.str _,.tup _,_,_=>by simp [toPy,PyData.eqv,bC]
 |_,_,.str _,.lst _,_,_=>by simp [toPy,PyData.eqv,bC]
 |_,_,.tup _,.non,_,_=>by simp [toPy,PyData.eqv,bC]
 |_,_,.tup _,.bl _,_,_=>by simp [toPy,PyData.eqv,bC]
 |_,_,.tup _,.int _,_,_=>by simp [toPy,PyData.eqv,bC]
 |_,_,.tup _,.str _,_,_=>by simp [toPy,PyData.eqv,bC]
 |_,_,.tup _,.lst _,_,_=>by simp [toPy,PyData.eqv,bC]
 |_,_,.lst _,.non,_,_=>by simp [toPy,PyData.eqv,bC]
 |_,_,.lst _,.bl _,_,_=>by simp [toPy,PyData.eqv,bC]
 |_,_,.lst _,.int _,_,_=>by simp [toPy,PyData.eqv,bC]
 |_,_,.lst _,.str _,_,_=>by simp [toPy,PyData.eqv,bC]
 |_,_,.lst _,.tup _,_,_=>by simp [toPy,PyData.eqv,bC]
theorem pL:∀(n m:Nat) (a b:List D),a.all (aG n)=true->b.all (aG m)=true->PyData.eqvAll (bS a) (bS b)=lP a b
 |n,m,[],[],_,_=>by simp [bS,PyData.eqvAll,lP]
 |n,m,[],_::_,_,_=>by simp [bS,PyData.eqvAll,lP]
 |n,m,_::_,[],_,_=>by simp [bS,PyData.eqvAll,lP]
 | n, m, x :: a, y :: b, ha, hb => by
   simp only [List.all_cons,Bool.and_eq_true] at ha hb
   simp only [bS,PyData.eqvAll,lP]
   rw [oA n m x y ha.1 hb.1,pL n m a b ha.2 hb.2]
end
section
variable {fa:Fa}{X:Cx}{μ:Mu}{H:Hp}{σ:L2.St}{pins:List (Addr×Obj)}{s:Shared}{M:Mem}
theorem kK {d:D}{v:V}{ds:List D}(hM:RelM fa X.K μ H M)(h:Rep fa X.K μ H d v)(e:kW M d=some ds):∃a vs,v=.ref a/\H a=some (.lst vs)/\aX fa X.K μ H ds vs:=by
 cases d with
 | lst xs =>
   cases e
   obtain ⟨a,vs,e,s,r⟩:=h
   exact ⟨a,vs,e,s.1,r⟩
 | cell k =>
   obtain ⟨a,rfl,hk⟩:=h
   obtain ⟨b,vs,h1,h2,h3⟩:=hM.at' k ds e
   rw [hk] at h1;cases h1
   exact ⟨a,vs,rfl,h2,h3⟩
 |_=>cases e
theorem cf {d:D}{v:V}{ds:List D}(hM:RelM fa X.K μ H M)(h:Rep fa X.K μ H d v)(e:gi M d=some ds):∃a vs,v=.ref a/\dg X.K H a vs/\aX fa X.K μ H ds vs:=by
 cases d with
 | lst xs =>
   obtain ⟨a,vs,h1,h2,h3⟩:=kK (ds:=ds) hM h e
   exact ⟨a,vs,h1,.of h2,h3⟩
 | frz xs =>
   cases e
   obtain ⟨a,vs,e,s,r⟩:=h
   exact ⟨a,vs,e,s.elim (fun z=>.inl (.inr z)) .inr,r⟩
 | cell k =>
   obtain ⟨a,vs,h1,h2,h3⟩:=kK (ds:=ds) hM h e
   exact ⟨a,vs,h1,.of h2,h3⟩
 |_=>cases e
theorem kJ {d:D}{v:V}{ds:List D}(hM:RelM fa X.K μ H M)(h:Rep fa X.K μ H d v)(e:cm M d=some ds):∃a vs,v=.ref a/\(dg X.K H a vs\/d8 X.K H a vs)/\aX fa X.K μ H ds vs:=by
 cases d with
 | tup xs =>
   cases e
   obtain ⟨a,vs,rfl,h1,h2⟩:=h
   exact ⟨a,vs,rfl,.inr h1,h2⟩
 | lst xs =>
   obtain ⟨a,vs,h1,h2,h3⟩:=cf (ds:=ds) hM h e
   exact ⟨a,vs,h1,.inl h2,h3⟩
 | frz xs =>
   obtain ⟨a,vs,h1,h2,h3⟩:=cf (ds:=ds) hM h e
   exact ⟨a,vs,h1,.inl h2,h3⟩
 | cell k =>
   obtain ⟨a,vs,h1,h2,h3⟩:=cf (ds:=ds) hM h e
   exact ⟨a,vs,h1,.inl h2,h3⟩
 |_=>cases e
mutual
theorem eP (I:Inv X pins σ H s):∀(d:D) (n:Nat) (v:V) (u:Value),aG n d=true->Rep fa X.K μ H d v->RelV v u->∃as,Reads s.heap u (toPy d) as
 | .non, n, v, u, _, h, r => by
   obtain rfl:v=.non:=h
   obtain rfl:u=Value.none:=r
   exact ⟨_,.none⟩
 | .bl b, n, v, u, _, h, r => by
   obtain rfl:v=.bl b:=h
   obtain rfl:u=Value.bool b:=r
   exact ⟨_,.bool b⟩
 | .int i, n, v, u, _, h, r => by
   obtain rfl:v=.int i:=h
   obtain ⟨t,rfl⟩:=r
   exact ⟨_,.int i t⟩
 | .str x, n, v, u, _, h, r => by
   obtain rfl:v=.str x:=h
   obtain ⟨t,rfl⟩:=r
   exact ⟨_,.str x t⟩
 | .tup ds, n, v, u, hp, h, r => by
   cases n with
   |zero=>simp [aG] at hp
   | succ n =>
     obtain ⟨a,vs,rfl,h1,h2⟩:=h
     obtain rfl:u=Value.ref a:=r
     obtain ⟨its,rv,⟨o,e1,e2,k,e3⟩,_⟩:=I.tuple h1
     obtain ⟨as,q⟩:=gJ I ds n vs its (by simpa [aG] using hp) h2 rv
     exact ⟨_,.tuple e1 e2 e3 (by simpa using q)⟩
 | .lst ds, n, v, u, hp, h, r => by
   cases n with
   |zero=>simp [aG] at hp
   | succ n =>
     obtain ⟨a,vs,rfl,h1,h2⟩:=h
     obtain rfl:u=Value.ref a:=r
     obtain ⟨its,rv,⟨o,k,e1,e2,e4,e3⟩,_⟩:=I.list (dg.of h1.1)
     obtain ⟨as,q⟩:=gJ I ds n vs its (by simpa [aG] using hp) h2 rv
     exact ⟨_,.list e1 e2 e3 (by simpa using q)⟩
 |.frz k,n,v,u,hp,_,_=>by cases n<;>simp [aG] at hp
 |.cell k,n,v,u,hp,_,_=>by cases n<;>simp [aG] at hp
 |.fn f,n,v,u,hp,_,_=>by cases n<;>simp [aG] at hp
 |.exc _ _,n,v,u,hp,_,_=>by cases n<;>simp [aG] at hp
theorem gJ (I:Inv X pins σ H s):∀(ds:List D) (n:Nat) (vs:List V) (us:List Value),ds.all (aG n)=true->aX fa X.K μ H ds vs->Vals vs us->∃as,ReadsAll s.heap us (bS ds) as
 | [], n, vs, us, _, h, r => by
   obtain rfl:vs=[]:=h
   cases r
   exact ⟨_,.nil⟩
 | d :: ds, n, vs, us, hp, h, r => by
   obtain ⟨v,vr,rfl,h1,h2⟩:=h
   simp only [List.all_cons,Bool.and_eq_true] at hp
   cases r with
   | cons r1 r2 =>
     obtain ⟨as,q1⟩:=eP I d n v _ hp.1 h1 r1
     obtain ⟨bs,q2⟩:=gJ I ds n vr _ hp.2 h2 r2
     exact ⟨_,.cons q1 q2⟩
end
theorem Di {d:D}{n:Nat}(h:aG n (view M d)=true):(view M d=d/\aG n d=true)\/∃ds,gi M d=some ds/\view M d=.lst ds:=by
 cases d with
 | cell k =>
   cases e:M[k]? with
   | none =>
     have ev:view M (.cell k)=.cell k:=by simp [view,e]
     rw [ev] at h
     cases n<;>simp [aG] at h
   |some ds=>exact .inr ⟨ds,e,by simp [view,e]⟩
 |frz ds=>exact .inr ⟨ds,rfl,rfl⟩
 |_=>exact .inl ⟨rfl,h⟩
theorem ml (I:Inv X pins σ H s)(hM:RelM fa X.K μ H M){d:D}{v:V}{u:Value}(hp:aG 64 (view M d)=true)(h:Rep fa X.K μ H d v)(r:RelV v u):∃as,Reads s.heap u (toPy (view M d)) as:=by
 rcases Di hp with ⟨e,hp'⟩|⟨ds,e,ev⟩
 ·rw [e];exact eP I _ 64 v u hp' h r
 ·rw [ev] at hp ⊢
  obtain ⟨a,vs,rfl,h1,h2⟩:=cf (ds:=ds) hM h e
  obtain rfl:u=Value.ref a:=r
  obtain ⟨its,rv,⟨o,k,e1,e2,e4,e3⟩,_⟩:=I.list h1
  obtain ⟨as,q⟩:=gJ I ds 63 vs its (by simpa [aG] using hp) h2 rv
  exact ⟨_,.list e1 e2 e3 (by simpa using q)⟩
theorem jv (I:Inv X pins σ H s)(hM:RelM fa X.K μ H M):∀(n m:Nat) (d:D) (v:V) (u:Value),aG m (cP n M d)=true->Rep fa X.K μ H d v->RelV v u->∃as,Reads s.heap u (toPy (cP n M d)) as
 |0,m,d,v,u,hp,h,r=>eP I d m v u hp h r
 | n + 1, m, d, v, u, hp, h, r => by
   have ih:=jv I hM n
   have all:∀(m:Nat) (ds:List D) (vs:List V) (us:List Value),(ds.map (cP n M)).all (aG m)=true->aX fa X.K μ H ds vs->Vals vs us->∃as,ReadsAll s.heap us (bS (ds.map (cP n M))) as:=by
    intro m ds
    induction ds with
    | nil =>
      intro vs us _ h r
      obtain rfl:vs=[]:=h
      cases r
      exact ⟨_,.nil⟩
    | cons d ds ihl =>
      intro vs us hp h r
      obtain ⟨v,vr,rfl,h1,h2⟩:=h
      simp only [List.map_cons,List.all_cons,Bool.and_eq_true] at hp
      cases r with
      | cons r1 r2 =>
        obtain ⟨as,q1⟩:=ih m d v _ hp.1 h1 r1
        obtain ⟨bs,q2⟩:=ihl vr _ hp.2 h2 r2
        exact ⟨_,.cons q1 q2⟩
   have lst:∀(ds:List D) (a:Addr) (vs:List V),aG m (.lst (ds.map (cP n M)))=true->dg X.K H a vs->aX fa X.K μ H ds vs->u=.ref a->∃as,Reads s.heap u (toPy (.lst (ds.map (cP n M)))) as:=by
    intro ds a vs hp h1 h2 e
    subst e
    cases m with
    |zero=>simp [aG] at hp
    | succ m =>
      obtain ⟨its,rv,⟨o,k,e1,e2,e4,e3⟩,_⟩:=I.list h1
      obtain ⟨as,q⟩:=all m ds vs its (by simpa [aG] using hp) h2 rv
      exact ⟨_,.list e1 e2 e3 (by simpa using q)⟩
   cases d with
   | cell k =>
     cases e:M[k]? with
     | none =>
       have ev:cP (n+1) M (.cell k)=.cell k:=by simp [cP,e]
       rw [ev] at hp
       cases m<;>simp [aG] at hp
     | some ds =>
       have ev:cP (n+1) M (.cell k)=.lst (ds.map (cP n M)):=by simp [cP,e]
       rw [ev] at hp ⊢
       obtain ⟨a,vs,rfl,h1,h2⟩:=cf (ds:=ds) hM h e
       exact lst ds a vs hp h1 h2 r
   | frz ds =>
     obtain ⟨a,vs,rfl,h1,h2⟩:=cf (ds:=ds) hM h rfl
     exact lst ds a vs hp h1 h2 r
   | lst ds =>
     obtain ⟨a,vs,rfl,h1,h2⟩:=cf (ds:=ds) hM h rfl
     exact lst ds a vs hp h1 h2 r
   | tup ds =>
     have hp:aG m (.tup (ds.map (cP n M)))=true:=hp
     cases m with
     |zero=>simp [aG] at hp
     | succ m =>
       obtain ⟨a,vs,rfl,h1,h2⟩:=h
       obtain rfl:u=Value.ref a:=r
       obtain ⟨its,rv,⟨o,e1,e2,k,e3⟩,_⟩:=I.tuple h1
       obtain ⟨as,q⟩:=all m ds vs its (by simpa [aG] using hp) h2 rv
       exact ⟨_,.tuple e1 e2 e3 (by simpa using q)⟩
   |non=>exact eP I .non m v u hp h r
   |bl b=>exact eP I (.bl b) m v u hp h r
   |int i=>exact eP I (.int i) m v u hp h r
   |str x=>exact eP I (.str x) m v u hp h r
   |fn f=>exact eP I (.fn f) m v u hp h r
   |exc y p=>exact eP I (.exc y p) m v u hp h r
abbrev Rm (X:Cx):Prop:=X.A.units+100<cLine
def iI (fa:Fa)(K:PySem.W.Frag)(o:ir):R2:=fun x y H Q=>∃μ M dx dy b,RelM fa K μ H M/\Rep fa K μ H dx x/\Rep fa K μ H dy y/\bP o dx dy M=some b/\Q (.bl b) H
theorem vm {a b:D}{k:Bool}(hs:(ja a&&ja b)=false)(h:qH a b=some k):aG 64 a=true/\aG 64 b=true/\k=bC a b:=by
 unfold qH at h
 rw [hs,Bool.false_or] at h
 split at h
 ·next q=>
  simp only [Bool.and_eq_true] at q
  exact ⟨q.1,q.2,(Option.some.inj h).symm⟩
 ·cases h
theorem vj (d:D):ja (view M d)=ja d:=by
 cases d with
 |cell k=>cases e:M[k]?<;>simp [view,e,ja]
 |_=>rfl
theorem sP (n:Nat)(d:D):ja (cP n M d)=ja d:=by
 cases n with
 |zero=>rfl
 | succ n =>
   cases d with
   |cell k=>cases e:M[k]?<;>simp [cP,e,ja]
   |_=>rfl
theorem sT (I:Inv X pins σ H s)(hM:RelM fa X.K μ H M){a b:D}{x y:V}{v u:Value}{k:Bool}(hs:(ja a&&ja b)=false)(h:l7 M a b=some k)(h1:Rep fa X.K μ H a x)(h2:Rep fa X.K μ H b y)(rx:RelV x v)(ry:RelV y u) :
 ∃c e as bs,aG 64 c=true/\aG 64 e=true/\k=bC c e/\Reads s.heap v (toPy c) as/\Reads s.heap u (toPy e) bs:=by
 unfold l7 at h
 cases q:qH (view M a) (view M b) with
 | some r =>
   rw [q] at h
   cases h
   obtain ⟨p1,p2,e⟩:=vm (by rw [vj,vj];exact hs) q
   obtain ⟨as,r1⟩:=ml I hM p1 h1 rx
   obtain ⟨bs,r2⟩:=ml I hM p2 h2 ry
   exact ⟨_,_,as,bs,p1,p2,e,r1,r2⟩
 | none =>
   rw [q] at h
   obtain ⟨p1,p2,e⟩:=vm (by rw [sP,sP];exact hs) h
   obtain ⟨as,r1⟩:=jv I hM 64 64 a x v p1 h1 rx
   obtain ⟨bs,r2⟩:=jv I hM 64 64 b y u p2 h2 ry
   exact ⟨_,_,as,bs,p1,p2,e,r1,r2⟩
theorem uv {a b:D}(h:(ja a&&ja b)=true):∃x y,a=.str x/\b=.str y:=by
 cases a with
 | str x =>
   cases b with
   |str y=>exact ⟨x,y,rfl,rfl⟩
   |_=>cases h
 |_=>cases h
theorem rT {x y:Str}:l7 M (.str x) (.str y)=some (x==y):=by
 have e:bC (.str x) (.str y)=(x==y):=by simp [bC]
 rw [<- e];rfl
theorem Mf (hu:Rm X):cu X (compareOp .Eq) (iI fa X.K .eq):=by
 intro pins s σ H x y v u Q I rx ry h
 obtain ⟨μ,M,dx,dy,b,hM,h1,h2,e,q⟩:=h
 cases hs:ja dx&&ja dy with
 | true =>
   obtain ⟨i,j,rfl,rfl⟩:=uv hs
   obtain rfl:x=.str i:=h1
   obtain rfl:y=.str j:=h2
   obtain rfl:(i==j)=b:=Option.some.inj (rT.symm.trans e)
   exact Jt pins s σ H _ _ v u Q I rx ry ⟨rfl,by rw [oE];exact q⟩
 | false =>
   obtain ⟨_,_,as,bs,p1,p2,rfl,r1,r2⟩:=sT I hM hs (show l7 M dx dy=some b from e) h1 h2 rx ry
   refine SeqAt.compareEq_shaped r1 r2 (lr p1) (lr p2) (by unfold Rm at hu;omega) ?_
   rw [oA 64 64 _ _ p1 p2]
   exact ⟨.bl _,H,I,rfl,q⟩
theorem L9 (hu:Rm X):cu X (compareOp .NotEq) (iI fa X.K .ne):=by
 intro pins s σ H x y v u Q I rx ry h
 obtain ⟨μ,M,dx,dy,b,hM,h1,h2,e,q⟩:=h
 have e:(l7 M dx dy).map (!·)=some b:=e
 cases e':l7 M dx dy with
 |none=>rw [e'] at e;cases e
 | some k =>
   rw [e'] at e
   obtain rfl:(!k)=b:=Option.some.inj e
   cases hs:ja dx&&ja dy with
   | true =>
     obtain ⟨i,j,rfl,rfl⟩:=uv hs
     obtain rfl:x=.str i:=h1
     obtain rfl:y=.str j:=h2
     obtain rfl:(i==j)=k:=Option.some.inj (rT.symm.trans e')
     exact Jo pins s σ H _ _ v u Q I rx ry ⟨rfl,by rw [oE];exact q⟩
   | false =>
     obtain ⟨_,_,as,bs,p1,p2,rfl,r1,r2⟩:=sT I hM hs e' h1 h2 rx ry
     refine SeqAt.compareNe_shaped r1 r2 (lr p1) (lr p2) (by unfold Rm at hu;omega) ?_
     rw [oA 64 64 _ _ p1 p2]
     exact ⟨.bl _,H,I,rfl,q⟩
end
end LD
namespace LD
open PySem PySem.Spec PyProof.Rows L2
section
variable {fa:Fa}{X:Cx}{μ:Mu}{H:Hp}{σ:L2.St}{pins:List (Addr×Obj)}{s:Shared}{M:Mem}
theorem jK {f:Value->Value->Sem Value}{r r':R2}(h:cu X f r)(i:∀x y H Q,r' x y H Q->r x y H Q):cu X f r':=fun pins s σ H x y v u Q I rx ry q=>h pins s σ H x y v u Q I rx ry (i x y H Q q)
theorem mO {f:Value}{r r':List V->Hp->VK->Prop}(h:dj X f r)(i:∀xs H Q,r' xs H Q->r xs H Q):dj X f r':=fun pins s σ H xs us Q I rx q=>h pins s σ H xs us Q I rx (i xs H Q q)
theorem oG {o:ir}{g:Int->Int->Bool}(ho:o=.lt\/o=.le\/o=.gt\/o=.ge)(hg:∀i j,bP o (.int i) (.int j) []=some (g i j)){x y:V}{Q:VK}(h:iI fa X.K o x y H Q) :
 ∃i j,x=.int i/\y=.int j/\Q (.bl (g i j)) H:=by
 obtain ⟨μ,M,dx,dy,b,hM,h1,h2,e,q⟩:=h
 have key:∀i j,dx=.int i->dy=.int j->∃i j,x=.int i/\y=.int j/\Q (.bl (g i j)) H:=fun i j e1 e2=>by
  subst e1 e2
  have e3:bP o (.int i) (.int j) M=some (g i j):=by
   have:=hg i j
   rcases ho with rfl|rfl|rfl|rfl<;>exact this
  rw [e] at e3
  have e4:=Option.some.inj e3
  subst e4
  exact ⟨i,j,h1,h2,q⟩
 rcases ho with rfl|rfl|rfl|rfl<;>
 ·cases dx with
  |int i=>cases dy<;>first|exact key _ _ rfl rfl|cases e
  |_=>cases e
theorem Ma:cu X (compareOp .Lt) (iI fa X.K .lt):=jK Jp fun x y H Q h=>oG (.inl rfl) (fun _ _=>rfl) h
theorem Mb:cu X (compareOp .LtE) (iI fa X.K .le):=jK Jq fun x y H Q h=>oG (.inr (.inl rfl)) (fun _ _=>rfl) h
theorem Md:cu X (compareOp .Gt) (iI fa X.K .gt):=jK Jr fun x y H Q h=>oG (.inr (.inr (.inl rfl))) (fun _ _=>rfl) h
theorem Me:cu X (compareOp .GtE) (iI fa X.K .ge):=jK Js fun x y H Q h=>oG (.inr (.inr (.inr rfl))) (fun _ _=>rfl) h
theorem wc {d:D}{v:V}{K:PySem.W.Frag}(h:Rep fa K μ H d v):decide (v=.non)=jA d:=by
 cases d with
 |non=>obtain rfl:v=.non:=h;rfl
 |bl b=>obtain rfl:v=.bl b:=h;rfl
 |int b=>obtain rfl:v=.int b:=h;rfl
 |str b=>obtain rfl:v=.str b:=h;rfl
 |tup b=>obtain ⟨a,vs,rfl,_⟩:=h;rfl
 |lst b=>obtain ⟨a,vs,rfl,_⟩:=h;rfl
 |frz b=>obtain ⟨a,vs,rfl,_⟩:=h;rfl
 |cell b=>obtain ⟨a,rfl,_⟩:=h;rfl
 |fn b=>obtain ⟨a,rfl,_⟩:=h;rfl
 |exc y p=>obtain ⟨a,_,_,rfl,_⟩:=h;rfl
theorem J0:cu X (compareOp .Is) (iI fa X.K .isN):=jK Gv fun x y H Q h=>by
 obtain ⟨μ,M,dx,dy,b,hM,h1,h2,e,q⟩:=h
 cases dy<;>first|cases (show (none:Option Bool)=some b from e)|skip
 refine ⟨h2,?_⟩
 rw [wc h1]
 have e:some (jA dx)=some b:=e
 rw [Option.some.inj e];exact q
theorem Iu:cu X (compareOp .IsNot) (iI fa X.K .notN):=jK D8 fun x y H Q h=>by
 obtain ⟨μ,M,dx,dy,b,hM,h1,h2,e,q⟩:=h
 cases dy<;>first|cases (show (none:Option Bool)=some b from e)|skip
 refine ⟨h2,?_⟩
 rw [wc h1]
 have e:some (!jA dx)=some b:=e
 rw [Option.some.inj e];exact q
theorem vE (x:D)(hx:aG 64 x=true):∀(ds:List D),ds.all (aG 63)=true->((bS ds).any fun y=>PyData.eqv y (toPy x))=ds.any fun y=>bC y x
 |[],_=>rfl
 | d :: r, h => by
   simp only [List.all_cons,Bool.and_eq_true] at h
   simp only [bS,List.any_cons,oA 63 64 d x h.1 hx,vE x hx r h.2]
theorem uj (n:Nat):∀ds:List D,ds.all (aG n)=true->PyData.canLayAll0 (bS ds)=true/\PyData.depthAll (bS ds)<=n
 |[],_=>by simp [bS,PyData.canLayAll0,PyData.depthAll]
 | d :: r, h => by
   simp only [List.all_cons,Bool.and_eq_true] at h
   obtain ⟨h1,h2⟩:=og n d h.1
   obtain ⟨h3,h4⟩:=uj n r h.2
   simp only [bS,PyData.canLayAll0,PyData.depthAll,h1,h3,Bool.and_self,true_and]
   omega
theorem zb (I:Inv X pins σ H s)(hM:RelM fa X.K μ H M){d:D}{v:V}{u:Value}{ds:List D}(hp:ds.all (aG 63)=true)(h:Rep fa X.K μ H d v)(r:RelV v u)(e:cm M d=some ds) :
 (∃as,Reads s.heap u (.list (bS ds)) as)\/∃as,Reads s.heap u (.tuple (bS ds)) as:=by
 obtain ⟨a,vs,rfl,h1,h2⟩:=kJ (ds:=ds) hM h e
 obtain rfl:u=Value.ref a:=r
 rcases h1 with h1|h1
 ·obtain ⟨its,rv,⟨o,k,e1,e2,e4,e3⟩,_⟩:=I.list h1
  obtain ⟨as,q⟩:=gJ I ds 63 vs its hp h2 rv
  exact .inl ⟨_,.list e1 e2 e3 (by simpa using q)⟩
 ·obtain ⟨its,rv,⟨o,e1,e2,k,e3⟩,_⟩:=I.tuple h1
  obtain ⟨as,q⟩:=gJ I ds 63 vs its hp h2 rv
  exact .inr ⟨_,.tuple e1 e2 e3 (by simpa using q)⟩
theorem zU (hu:Rm X){x y:V}{v u:Value}{dx dy:D}{ds:List D}{b:Bool}{Q:Value->Shared->Prop}(I:Inv X pins σ H s)(hM:RelM fa X.K μ H M)(h1:Rep fa X.K μ H dx x)(h2:Rep fa X.K μ H dy y)(rx:RelV x v)(ry:RelV y u)
 (e1:cm M dy=some ds) (e2:iQ (view M dx) ds=some b) (neg:Bool) (q:Q (.bool (if neg then !b else b)) s):wpAny (model X.prog X.w) X.A (compareOp (if neg then .NotIn else .In) v u) Q X.xe s:=by
 unfold iQ at e2
 split at e2
 ·next z=>
  simp only [Bool.and_eq_true] at z
  obtain ⟨p1,p2⟩:=z
  have e3:=Option.some.inj e2
  subst e3
  obtain ⟨as,r1⟩:=ml I hM p1 h1 rx
  obtain ⟨c1,d1⟩:=og 64 _ p1
  obtain ⟨c2,d2⟩:=uj 63 ds p2
  have hu':X.A.units+1+min (PyData.depthAll (bS ds)) (toPy (view M dx)).depth<cLine:=by unfold Rm at hu;omega
  rw [<- vE _ p1 ds p2] at q
  rcases zb I hM p2 h2 ry e1 with ⟨bs,r2⟩|⟨bs,r2⟩
  ·cases neg
   ·exact SeqAt.in_list_reads r2 r1 c2 c1 hu' q
   ·exact SeqAt.notIn_list_reads r2 r1 c2 c1 hu' q
  ·cases neg
   ·exact SeqAt.in_tuple_reads r2 r1 c2 c1 hu' q
   ·exact SeqAt.notIn_tuple_reads r2 r1 c2 c1 hu' q
 ·cases e2
theorem Mc (hu:Rm X):cu X (compareOp .In) (iI fa X.K .isin):=by
 intro pins s σ H x y v u Q I rx ry h
 obtain ⟨μ,M,dx,dy,b,hM,h1,h2,e,q⟩:=h
 have gen:(cm M dy).bind (iQ (view M dx))=some b->wpAny (model X.prog X.w) X.A (compareOp .In v u) (EP X pins σ Q) X.xe s:=fun e=>by
  cases e1:cm M dy with
  |none=>rw [e1] at e;cases e
  | some ds =>
    rw [e1] at e
    exact zU hu I hM h1 h2 rx ry e1 e false ⟨.bl b,H,I,rfl,q⟩
 by_cases hs:(∃a,dx=.str a)/\∃c,dy=.str c
 ·obtain ⟨⟨a,rfl⟩,c,rfl⟩:=hs
  have e:some (km a c)=some b:=e
  have e':=Option.some.inj e
  subst e'
  exact zC pins s σ H x y v u Q I rx ry ⟨a,c,h1,h2,q⟩
 ·refine gen ?_
  cases dx<;>first|exact e|(cases dy<;>first|exact e|exact absurd ⟨⟨_,rfl⟩,_,rfl⟩ hs)
theorem EZ (hu:Rm X):cu X (compareOp .NotIn) (iI fa X.K .notin):=by
 intro pins s σ H x y v u Q I rx ry h
 obtain ⟨μ,M,dx,dy,b,hM,h1,h2,e,q⟩:=h
 have gen:((cm M dy).bind (iQ (view M dx))).map (!·)=some b->wpAny (model X.prog X.w) X.A (compareOp .NotIn v u) (EP X pins σ Q) X.xe s:=fun e=>by
  cases e1:cm M dy with
  |none=>rw [e1] at e;cases e
  | some ds =>
    rw [e1] at e
    cases e2:iQ (view M dx) ds with
    |none=>rw [Option.bind_some,e2] at e;cases e
    | some k =>
      rw [Option.bind_some,e2] at e
      have e':=Option.some.inj e
      subst e'
      exact zU hu I hM h1 h2 rx ry e1 e2 true ⟨.bl _,H,I,rfl,q⟩
 by_cases hs:(∃a,dx=.str a)/\∃c,dy=.str c
 ·obtain ⟨⟨a,rfl⟩,c,rfl⟩:=hs
  have e:some (!km a c)=some b:=e
  have e':=Option.some.inj e
  subst e'
  exact uZ pins s σ H x y v u Q I rx ry ⟨a,c,h1,h2,q⟩
 ·refine gen ?_
  cases dx<;>first|exact e|(cases dy<;>first|exact e|exact absurd ⟨⟨_,rfl⟩,_,rfl⟩ hs)
def cW:ir->CmpOp
 |.eq=>.Eq|.ne=>.NotEq|.lt=>.Lt|.le=>.LtE|.gt=>.Gt|.ge=>.GtE|.isN=>.Is|.notN=>.IsNot|.isin=>.In|.notin=>.NotIn
theorem oJ (hu:Rm X):∀o:ir,cu X (compareOp (cW o)) (iI fa X.K o)
 |.eq=>Mf hu|.ne=>L9 hu|.lt=>Ma|.le=>Mb|.gt=>Md|.ge=>Me|.isN=>J0|.notN=>Iu|.isin=>Mc hu|.notin=>EZ hu
def nA (fa:Fa)(K:PySem.W.Frag)(m:Bool)(o:pb):R2:=fun x y H Q=>∃μ M dx dy,RelM fa K μ H M/\Rep fa K μ H dx x/\Rep fa K μ H dy y/\aj (fv m o dx dy M) (bH fa K μ H Q)
theorem bE {Q:VK}{d:D}{v:V}(hM:RelM fa X.K μ H M)(h:bH fa X.K μ H Q d M)(r:Rep fa X.K μ H d v):Q v H:=h v H μ .refl hM r
theorem ib {Q:VK}{m:Bool}{ds:List D}{vs:List V}(hM:RelM fa X.K μ H M)(r:aX fa X.K μ H ds vs)(h:aj (bT m ds M) (bH fa X.K μ H Q)):ds.length<=sz/\∀p,H p=none->Q (.ref p) (upd H p (.lst vs)):=by
 unfold bT at h
 split at h
 ·next hz=>
  refine ⟨hz,fun p hp=>?_⟩
  cases m with
  | true =>
    have h:bH fa X.K μ H Q (.cell M.length) (M++[ds]):=h
    exact h (.ref p) _ (gL μ M.length p) (Ext.cell hM hp) (hM.cell hp r) ⟨p,rfl,by simp [gL]⟩
  | false =>
    have h:bH fa X.K μ H Q (.lst ds) M:=h
    exact h (.ref p) _ μ (Ext.alloc hM hp) (hM.alloc hp) ⟨p,vs,rfl,⟨cb,hM.fresh hp⟩,r.ext (Ext.alloc hM hp)⟩
 ·exact h.elim
theorem jc {Q:VK}{ds:List D}{vs:List V}(hM:RelM fa X.K μ H M)(r:aX fa X.K μ H ds vs)(h:bH fa X.K μ H Q (.tup ds) M):∀p,H p=none->Q (.ref p) (upd H p (.tup vs)):=fun p hp=>
 h (.ref p) _ μ (Ext.alloc hM hp) (hM.alloc hp) ⟨p,vs,rfl,.of cb,r.ext (Ext.alloc hM hp)⟩
theorem dQ:sz=sizeLine:=by rw [sizeLine_eq];rfl
theorem Bu:cu X (binaryOp .Add) (fun x y H Q=>∃a b ys,x=.ref a/\y=.ref b/\d8 X.K H a []/\d8 X.K H b ys/\Q (.ref b) H):=by
 intro pins s σ H x y v u Q I rx ry h
 obtain ⟨a,b,ys,rfl,rfl,ha,hb,q⟩:=h
 cases rx
 cases ry
 obtain ⟨its,r1,p1,_⟩:=I.tuple ha
 obtain ⟨its2,r2,p2,_⟩:=I.tuple hb
 cases r1
 obtain ⟨⟨cls,dd,data,sl⟩,ho,hc,n,hd⟩:=id p1
 obtain ⟨⟨cls2,dd2,data2,sl2⟩,ho2,hc2,n2,hd2⟩:=id p2
 simp only at hc hd hc2 hd2
 subst hc hd hc2 hd2
 exact concat_meets ⟨_,ho,rfl⟩ ⟨_,ho2,rfl⟩ noFill_tuple_add seq_tuple_add PySem.F.slot_tuple_add PySem.F.entry_tuple_add (PySem.F.args_tuple_add_2 _ _)
  (tuple_addW0 a b #[] its2.toArray n n2 dd dd2 sl sl2 rfl) ⟨ho,ho2,⟨.ref b,H,I,rfl,q⟩⟩
theorem Ci {m:Bool}{x y:V}{v u:Value}{dx dy:D}{Q:VK}(I:Inv X pins σ H s)(hM:RelM fa X.K μ H M)(h1:Rep fa X.K μ H dx x)(h2:Rep fa X.K μ H dy y)(rx:RelV x v)(ry:RelV y u)
 (h:aj (match kW M dx,kW M dy with|some x,some y=>bT m (x++y) M|_,_=>.bad) (bH fa X.K μ H Q)):wpAny (model X.prog X.w) X.A (binaryOp .Add v u) (EP X pins σ Q) X.xe s:=by
 cases e1:kW M dx with
 |none=>rw [e1] at h;exact h.elim
 | some xs =>
   cases e2:kW M dy with
   |none=>rw [e1,e2] at h;exact h.elim
   | some ys =>
     rw [e1,e2] at h
     obtain ⟨a,vs,rfl,ha,ra⟩:=kK hM h1 e1
     obtain ⟨b,ws,rfl,hb,rb⟩:=kK hM h2 e2
     obtain ⟨hz,k⟩:=ib hM (ra.append rb) h
     refine Gw pins s σ H _ _ v u Q I rx ry ⟨a,b,vs,ws,rfl,rfl,ha,hb,?_,k⟩
     rw [ra.length,rb.length,<- List.length_append,<- dQ];exact hz
theorem J7 (m:Bool):cu X (binaryOp .Add) (nA fa X.K m .add):=by
 intro pins s σ H x y v u Q I rx ry h
 obtain ⟨μ,M,dx,dy,hM,h1,h2,h⟩:=h
 have hi:∀i j,dx=.int i->dy=.int j->wpAny (model X.prog X.w) X.A (binaryOp .Add v u) (EP X pins σ Q) X.xe s:=fun i j e1 e2=>by
  subst e1 e2
  exact Gx pins s σ H x y v u Q I rx ry ⟨i,j,h1,h2,bE (v:=.int (i+j)) hM h rfl⟩
 have hs:∀i j,dx=.str i->dy=.str j->wpAny (model X.prog X.w) X.A (binaryOp .Add v u) (EP X pins σ Q) X.xe s:=fun i j e1 e2=>by
  subst e1 e2
  have h:aj (if i.cps.size+j.cps.size<=sz then .ok (.str ⟨i.cps++j.cps⟩) M else .bad) (bH fa X.K μ H Q):=h
  split at h
  ·next hz=>exact xr pins s σ H x y v u Q I rx ry ⟨i,j,h1,h2,by rw [<- dQ];exact hz,bE (v:=.str ⟨i.cps++j.cps⟩) hM h rfl⟩
  ·exact h.elim
 have ht:∀i j,dx=.tup i->dy=.tup j->wpAny (model X.prog X.w) X.A (binaryOp .Add v u) (EP X pins σ Q) X.xe s:=fun i j e1 e2=>by
  subst e1 e2
  have h:aj (if (i++j).length<=sz then .ok (.tup (i++j)) M else .bad) (bH fa X.K μ H Q):=h
  split at h
  ·next hz=>
   have h:bH fa X.K μ H Q (.tup (i++j)) M:=h
   obtain ⟨a,vs,e1,ha,ra⟩:=id h1
   obtain ⟨b,ws,e2,hb,rb⟩:=id h2
   by_cases h0:i=[]
   ·subst h0
    obtain rfl:vs=[]:=ra
    exact Bu pins s σ H x y v u Q I rx ry ⟨a,b,ws,e1,e2,ha,hb,bE hM h ⟨b,ws,rfl,hb,rb⟩⟩
   ·have hv:vs≠[]:=fun z=>h0 (by have:=ra.length;rw [z] at this;exact List.length_eq_zero_iff.mp this.symm)
    refine Ea pins s σ H x y v u Q I rx ry ⟨a,b,vs,ws,e1,e2,ha,hb,hv,?_,fun z=>?_,fun _=>jc hM (ra.append rb) h⟩
    ·rw [ra.length,rb.length,<- List.length_append,<- dQ];exact hz
    ·subst z
     have ej:j=[]:=List.length_eq_zero_iff.mp rb.length.symm
     subst ej
     exact bE hM h ⟨a,vs,rfl,ha,by simpa using ra⟩
  ·exact h.elim
 cases dx<;>cases dy<;>first|exact hi _ _ rfl rfl|exact hs _ _ rfl rfl|exact ht _ _ rfl rfl|exact Ci (m:=m) I hM h1 h2 rx ry h
theorem t9 {op:Operator}{o:pb}{m:Bool}{C:Int->Int->Prop}{g:Int->Int->Int}(hr:cu X (binaryOp op) (rI C fun i j=>.int (g i j)))
 (hD:∀dx dy M (P:D->Mem->Prop),aj (fv m o dx dy M) P->∃i j,dx=.int i/\dy=.int j/\C i j/\P (.int (g i j)) M):cu X (binaryOp op) (nA fa X.K m o):=jK hr fun x y H Q h=>by
 obtain ⟨μ,M,dx,dy,hM,h1,h2,h⟩:=h
 obtain ⟨i,j,rfl,rfl,c,q⟩:=hD dx dy M _ h
 exact ⟨i,j,h1,h2,c,bE (v:=.int (g i j)) hM q rfl⟩
theorem J1 (m:Bool):cu X (binaryOp .Sub) (nA fa X.K m .sub):=t9 (C:=fun _ _=>True) (g:=fun i j=>i-j) (jK Gp fun x y H Q ⟨i,j,e1,e2,_,q⟩=>⟨i,j,e1,e2,q⟩) fun dx dy M P h=>by
 cases dx<;>cases dy<;>first|exact ⟨_,_,rfl,rfl,trivial,h⟩|exact h.elim
theorem Iy (m:Bool):cu X (binaryOp .FloorDiv) (nA fa X.K m .fdiv):=t9 D9 fun dx dy M P h=>by
 have key:∀i j,dx=.int i->dy=.int j->∃i j,dx=.int i/\dy=.int j/\IK i j/\P (.int (i / j)) M:=fun i j e1 e2=>by
  subst e1 e2
  have h:aj (if 0<j/\j<1073741824 then .ok (.int (i / j)) M else .bad) P:=h
  split at h
  ·next c=>exact ⟨i,j,rfl,rfl,c,h⟩
  ·exact h.elim
 cases dx<;>cases dy<;>first|exact key _ _ rfl rfl|exact h.elim
theorem J5 (m:Bool):cu X (binaryOp .Mod) (nA fa X.K m .mod):=t9 Gu fun dx dy M P h=>by
 have key:∀i j,dx=.int i->dy=.int j->∃i j,dx=.int i/\dy=.int j/\0<j/\P (.int (i % j)) M:=fun i j e1 e2=>by
  subst e1 e2
  have h:aj (if 0<j then .ok (.int (i % j)) M else .bad) P:=h
  split at h
  ·next c=>exact ⟨i,j,rfl,rfl,c,h⟩
  ·exact h.elim
 cases dx<;>cases dy<;>first|exact key _ _ rfl rfl|exact h.elim
theorem J3 (m:Bool):cu X (binaryOp .Pow) (nA fa X.K m .pow):=t9 Gr fun dx dy M P h=>by
 have key:∀i j,dx=.int i->dy=.int j->∃i j,dx=.int i/\dy=.int j/\IJ i j/\P (.int (i^j.toNat)) M:=fun i j e1 e2=>by
  subst e1 e2
  have h:aj (if 0<=j/\j<=1000000/\i.natAbs<2^64 then .ok (.int (i^j.toNat)) M else .bad) P:=h
  split at h
  ·next c=>exact ⟨i,j,rfl,rfl,c,h⟩
  ·exact h.elim
 cases dx<;>cases dy<;>first|exact key _ _ rfl rfl|exact h.elim
theorem Be {m:Bool}{x y:V}{v u:Value}{dx:D}{j:Int}{Q:VK}(I:Inv X pins σ H s)(hM:RelM fa X.K μ H M)(h1:Rep fa X.K μ H dx x)(h2:Rep fa X.K μ H (.int j) y)(rx:RelV x v)(ry:RelV y u)
 (h:aj (match kW M dx with|some x=>if x.length*j.toNat<=sz/\-(2^63)<=j/\j<2^63 then bT m (List.replicate j.toNat x).flatten M else .bad|none=>.bad) (bH fa X.K μ H Q)) :
 wpAny (model X.prog X.w) X.A (binaryOp .Mult v u) (EP X pins σ Q) X.xe s:=by
 cases e1:kW M dx with
 |none=>rw [e1] at h;exact h.elim
 | some xs =>
   rw [e1] at h
   simp only at h
   split at h
   ·next c=>
    obtain ⟨a,vs,rfl,ha,ra⟩:=kK hM h1 e1
    obtain ⟨hz,k⟩:=ib hM (ra.rep j.toNat) h
    exact Gq pins s σ H _ _ v u Q I rx ry ⟨a,j,vs,rfl,h2,ha,c.2.1,c.2.2,by rw [ra.length,<- dQ];exact c.1,k⟩
   ·exact h.elim
end
end LD
namespace LD
open PySem PySem.Spec PyProof.Rows L2 PySem.Builtin
open PySem.Sem (wp)
theorem pH:fillsNumberSlot (.type "tuple") "mul"=pure false:=
 PySem.fillsNumberSlot_seq (id:="tuple.__mul__") (r:=some (.builtin "tuple.__rmul__")) F.slot_tuple_mul.lookup (by decide +kernel) F.slot_tuple_rmul.lookup (by decide +kernel)
theorem uN:seqRepeat? (.type "tuple")=pure (some (.builtin "tuple.__mul__")):=by
 unfold seqRepeat?
 rw [PySem.seqSlot_of (T:="tuple") (name:="__mul__") (id:="tuple.__mul__") F.slot_tuple_mul.lookup (by decide +kernel),PySem.seqSlot_of (T:="tuple") (name:="__rmul__") (id:="tuple.__rmul__") F.slot_tuple_rmul.lookup (by decide +kernel)]
 rfl
theorem qY (a:Int)(t:Tok)(l:Addr)(items:Array Value)(n:Nat)(dd:Option Addr)(sl:Array (Option Value)) :
 Meets (Builtin.«int.__rmul__» ⟨[.int a t,.ref l],[]⟩) (fun _ R s=>s.heap.get? l=some {cls:=.type "tuple",dict:=dd,data:=.seq items n,slots:=sl}/\R (.ok (.ret Value.notImplemented)) s):=
 .of_wp fun prog w A R s h=>by obtain ⟨hp,g,d,tk,os⟩:=s;obtain ⟨hl,h⟩:=h;wp_walk using wpAny_loadPart' hl;exact ⟨_,rfl,h⟩
theorem xq {x:Int}(h0:-(2^63)<=x)(h1:x<2^63):(decide (x < -2^63)||decide (x≥2^63))=false:=by
 rw [decide_eq_false (by omega),decide_eq_false (by omega)];rfl
theorem rH (l:Addr)(items:Array Value)(n:Nat)(dd:Option Addr)(sl:Array (Option Value))(x:Int)(u:Tok)(h0:-(2^63)<=x)(h1:x<2^63)(hc:(items.isEmpty||x==1)=true) :
 Meets (Builtin.«tuple.__mul__» ⟨[.ref l,.int x u],[]⟩) (fun _ R s=>s.heap.get? l=some {cls:=.type "tuple",dict:=dd,data:=.seq items n,slots:=sl}/\R (.ok (.ret (.ref l))) s):=
 .of_wp fun prog w A R s h=>by
  obtain ⟨hp,g,d,tk,os⟩:=s;obtain ⟨hl,h⟩:=h;have f1:=AutoSeq1.idx_int
  wp_walk using wpAny_loadPart' hl
  refine wpAny_ite_false (by rw [xq h0 h1];rfl) ?_
  wp_walk using wpAny_loadPart' hl
  exact ⟨_,rfl,h⟩
theorem rJ (l:Addr)(items:Array Value)(n:Nat)(dd:Option Addr)(sl:Array (Option Value))(x:Int)(u:Tok)(h0:-(2^63)<=x)(h1:x<2^63)(hc:(items.isEmpty||x==1)=false)(hc1:(decide (x<=0)||items.isEmpty)=true) :
 Meets (Builtin.«tuple.__mul__» ⟨[.ref l,.int x u],[]⟩) (fun _ R s=>s.heap.get? l=some {cls:=.type "tuple",dict:=dd,data:=.seq items n,slots:=sl}/\R (.ok (.ret (.ref s.heap.objs.size))) {s with heap:=s.heap.push {cls:=Value.type "tuple",data:=Data.seq #[]},toks:=s.toks}):=
 .of_wp fun prog w A R s h=>by
  obtain ⟨hp,g,d,tk,os⟩:=s;obtain ⟨hl,h⟩:=h;have f1:=AutoSeq1.idx_int
  wp_walk using wpAny_loadPart' hl
  refine wpAny_ite_false (by rw [xq h0 h1];rfl) ?_
  wp_walk using wpAny_loadPart' hl
  exact ⟨_,rfl,h⟩
theorem rK (l:Addr)(items:Array Value)(n:Nat)(dd:Option Addr)(sl:Array (Option Value))(x:Int)(u:Tok)(h0:-(2^63)<=x)(h1:x<2^63)(hc:(items.isEmpty||x==1)=false)(hc1:(decide (x<=0)||items.isEmpty)=false)
 (hs:(items.size:Int)*x<=16777216) (hs2:(List.foldl (fun x1 x2=>x1++x2) #[] (List.replicate x.toNat items)).size<=sizeLine) :
 Meets (Builtin.«tuple.__mul__» ⟨[.ref l,.int x u],[]⟩) (fun _ R s=>s.heap.get? l=some {cls:=.type "tuple",dict:=dd,data:=.seq items n,slots:=sl}/\R (.ok (.ret (.ref s.heap.objs.size))) {s with heap:=s.heap.push {cls:=Value.type "tuple",data:=Data.seq (List.foldl (fun x1 x2=>x1++x2) #[] (List.replicate x.toNat items))},toks:=s.toks}):=
 .of_wp fun prog w A R s h=>by
  obtain ⟨hp,g,d,tk,os⟩:=s;obtain ⟨hl,h⟩:=h;have f1:=AutoSeq1.idx_int
  wp_walk using wpAny_loadPart' hl
  refine wpAny_ite_false (by rw [xq h0 h1];rfl) ?_
  wp_walk using wpAny_loadPart' hl
  refine wpAny_ite_false (decide_eq_false (by omega)) ?_
  wp_walk using wpAny_loadPart' hl
  refine wpAny_ite_false (decide_eq_false (by unfold Tuple.tupleTooMany;rw [sizeLine_eq];simp;omega)) ?_
  wp_walk using wpAny_loadPart' hl
  exact ⟨_,rfl,h⟩
section
variable {fa:Fa}{X:Cx}{μ:Mu}{H:Hp}{σ:L2.St}{pins:List (Addr×Obj)}{s:Shared}{M:Mem}
theorem sG (its:List Value)(m:Nat):List.foldl (fun x1 x2=>x1++x2) #[] (List.replicate m its.toArray)=(List.replicate m its).flatten.toArray:=by
 have:=foldl_rep its m []
 rw [List.nil_append] at this
 exact this
theorem D7:cu X (binaryOp .Mult) (fun x y H Q=>∃l k xs,x=.ref l/\y=.int k/\d8 X.K H l xs/\-(2^63)<=k/\k<2^63/\xs.length*k.toNat<=sz/\
 ((List.replicate k.toNat xs).flatten=xs->Q (.ref l) H)/\∀p,H p=none->Q (.ref p) (upd H p (.tup (List.replicate k.toNat xs).flatten))):=by
 intro pins s σ H x y v u Q I rx ry h
 obtain ⟨l,k,xs,rfl,rfl,hq,h1,h2,hz,q1,q2⟩:=h
 cases rx
 obtain ⟨t,rfl⟩:=ry
 obtain ⟨its,r,p,hzz⟩:=I.tuple hq
 have hl:=r.length
 obtain ⟨⟨cls,dd,data,sl⟩,ho,hc,n,hd⟩:=id p
 simp only at hc hd
 subst hc hd
 refine wpAny_binaryOp_repeat_ref (T:="tuple") (U:="int") (by decide) ⟨_,ho,rfl⟩ (fun s'=>typeIs_int s' k t) pH F.fills_int_mul F.slot_int_rmul uN F.slot_int_index.lookup
  (call_meets F.slot_int_rmul (typeIs_int s k t) F.entry_int_rmul (F.args_int_rmul_2 _ _) (qY k t l its.toArray n dd sl) ⟨ho,rfl,⟨_,ho,rfl⟩,?_⟩)
 have new:∀(its':List Value),Vals (List.replicate k.toNat xs).flatten its'->EP X pins σ Q (.ref s.heap.objs.size) {s with heap:=s.heap.push {cls:=Value.type "tuple",data:=Data.seq its'.toArray}}:=fun its' r'=>by
  refine ⟨.ref s.heap.objs.size,_,I.laid (t':=s.toks) (o:=.tup (List.replicate k.toNat xs).flatten) (fun b ob q=>tqc _ q) (tqg _) ?_,rfl,q2 _ (I.hok.fresh (tqg _))⟩
  exact ⟨by rw [len_rep,Nat.mul_comm,<- dQ];exact hz,_,r',IsTup.new _ _⟩
 by_cases c1:(its.toArray.isEmpty||k==1)=true
 ·refine call_meets F.slot_tuple_mul ⟨_,ho,rfl⟩ F.entry_tuple_mul (F.args_tuple_mul_2 _ _) (rH l its.toArray n dd sl k t h1 h2 c1) ⟨ho,⟨.ref l,H,I,rfl,q1 ?_⟩⟩
  rcases Bool.or_eq_true_iff.mp c1 with z|z
  ·have e:its=[]:=by simpa using z
   subst e
   have e2:xs=[]:=List.length_eq_zero_iff.mp hl
   subst e2
   simp
  ·have e:k=1:=by simpa using z
   subst e
   simp
 ·have c1':(its.toArray.isEmpty||k==1)=false:=by simpa using c1
  by_cases c2:(decide (k<=0)||its.toArray.isEmpty)=true
  ·refine call_meets F.slot_tuple_mul ⟨_,ho,rfl⟩ F.entry_tuple_mul (F.args_tuple_mul_2 _ _) (rJ l its.toArray n dd sl k t h1 h2 c1' c2) ⟨ho,new [] ?_⟩
   have hk:k<=0:=by
    rcases Bool.or_eq_true_iff.mp c2 with z|z
    ·simpa using z
    ·rw [z] at c1';cases c1'
   have hk0:k.toNat=0:=by omega
   rw [hk0];exact .nil
  ·have c2':(decide (k<=0)||its.toArray.isEmpty)=false:=by simpa using c2
   have hk:0<k:=by
    have:=(Bool.or_eq_false_iff.mp c2').1
    simpa using this
   have hs:(its.toArray.size:Int)*k<=16777216:=by
    have e1:(its.toArray.size:Int)*k=((xs.length*k.toNat:Nat):Int):=by
     rw [List.size_toArray,<- hl,Int.natCast_mul,Int.toNat_of_nonneg (by omega)]
    rw [e1]
    have:xs.length*k.toNat<=16777216:=hz
    omega
   have hs2:(List.foldl (fun x1 x2=>x1++x2) #[] (List.replicate k.toNat its.toArray)).size<=sizeLine:=by
    rw [sG,List.size_toArray,len_rep,Nat.mul_comm,<- hl,<- dQ];exact hz
   refine call_meets F.slot_tuple_mul ⟨_,ho,rfl⟩ F.entry_tuple_mul (F.args_tuple_mul_2 _ _) (rK l its.toArray n dd sl k t h1 h2 c1' c2' hs hs2) ⟨ho,?_⟩
   rw [sG]
   exact new _ (r.rep k.toNat)
theorem J4 (m:Bool):cu X (binaryOp .Mult) (nA fa X.K m .mul):=by
 intro pins s σ H x y v u Q I rx ry h
 obtain ⟨μ,M,dx,dy,hM,h1,h2,h⟩:=h
 have hi:∀i j,dx=.int i->dy=.int j->wpAny (model X.prog X.w) X.A (binaryOp .Mult v u) (EP X pins σ Q) X.xe s:=fun i j e1 e2=>by
  subst e1 e2
  have h:aj (if (-(2^64)<i/\i<2^64)\/(-(2^64)<j/\j<2^64) then .ok (.int (i*j)) M else .bad) (bH fa X.K μ H Q):=h
  split at h
  ·next c=>exact Gs pins s σ H x y v u Q I rx ry ⟨i,j,h1,h2,c,bE (v:=.int (i*j)) hM h rfl⟩
  ·exact h.elim
 have ht:∀i j,dx=.tup i->dy=.int j->wpAny (model X.prog X.w) X.A (binaryOp .Mult v u) (EP X pins σ Q) X.xe s:=fun i j e1 e2=>by
  subst e1 e2
  have h:aj (if i.length*j.toNat<=sz/\-(2^63)<=j/\j<2^63 then .ok (.tup (List.replicate j.toNat i).flatten) M else .bad) (bH fa X.K μ H Q):=h
  split at h
  ·next c=>
   have h:bH fa X.K μ H Q (.tup (List.replicate j.toNat i).flatten) M:=h
   obtain ⟨a,vs,e1,ha,ra⟩:=id h1
   refine D7 pins s σ H x y v u Q I rx ry ⟨a,j,vs,e1,h2,ha,c.2.1,c.2.2,by rw [ra.length];exact c.1,fun z=>?_,jc hM (ra.rep j.toNat) h⟩
   refine bE hM h ⟨a,vs,rfl,ha,?_⟩
   have:=ra.rep j.toNat
   rw [z] at this
   exact this
  ·exact h.elim
 have hl:∀j,dy=.int j->aj (match kW M dx with|some x=>if x.length*j.toNat<=sz/\-(2^63)<=j/\j<2^63 then bT m (List.replicate j.toNat x).flatten M else .bad|none=>.bad) (bH fa X.K μ H Q)->
  wpAny (model X.prog X.w) X.A (binaryOp .Mult v u) (EP X pins σ Q) X.xe s:=fun j e1 h'=>by
  subst e1
  exact Be (m:=m) I hM h1 h2 rx ry h'
 cases dy with
 |int j=>cases dx<;>first|exact hi _ _ rfl rfl|exact ht _ _ rfl rfl|exact hl _ rfl h
 |_=>cases dx<;>exact h.elim
def binOp:pb->Operator
 |.add=>.Add|.sub=>.Sub|.mul=>.Mult|.fdiv=>.FloorDiv|.mod=>.Mod|.pow=>.Pow
theorem J6 (m:Bool):∀o:pb,cu X (binaryOp (binOp o)) (nA fa X.K m o)
 |.add=>J7 m|.sub=>J1 m|.mul=>J4 m|.fdiv=>Iy m|.mod=>J5 m|.pow=>J3 m
end
end LD
namespace LD
open PySem PySem.Spec PyProof.Rows L2
section
variable {fa:Fa}{X:Cx}{μ:Mu}{H:Hp}{σ:L2.St}{pins:List (Addr×Obj)}{s:Shared}{M:Mem}
theorem HG {r r':R2}(h:mf X r)(i:∀x y H Q,r' x y H Q->r x y H Q):mf X r':=fun value slice pins s σ H x y v u Q I rx ry q hs=>h value slice pins s σ H x y v u Q I rx ry (i x y H Q q) hs
def K8 (fa:Fa)(K:PySem.W.Frag):R2:=fun x y H Q=>∃μ M dx dy d,RelM fa K μ H M/\Rep fa K μ H dx x/\Rep fa K μ H dy y/\fq dx dy M=some d/\bH fa K μ H Q d M
theorem vi (n:Nat)(i:Int):LD.bV n i=L2.bV n i:=rfl
theorem Jz:mf X (K8 fa X.K):=HG HF fun x y H Q h=>by
 obtain ⟨μ,M,dx,dy,d,hM,h1,h2,e,q⟩:=h
 have gen:∀i,dy=.int i->((cm M dx).bind fun ds=>(LD.bV ds.length i).bind fun j=>ds[j]?)=some d->FQ X.K x y H Q:=fun i e0 e'=>by
  subst e0
  clear e
  have e:=e'
  clear e'
  cases e1:cm M dx with
  |none=>rw [e1] at e;cases e
  | some ds =>
    rw [e1,Option.bind_some] at e
    obtain ⟨a,vs,rfl,hq,r⟩:=kJ hM h1 e1
    cases e2:LD.bV ds.length i with
    |none=>rw [e2] at e;cases e
    | some j =>
      rw [e2,Option.bind_some] at e
      obtain ⟨v,hv,rv⟩:=r.get e
      have he:tm vs i=some v:=by
       unfold tm
       rw [r.length,<- vi,e2];exact hv
      rcases hq with hq|hq
      ·exact .inl ⟨a,vs,i,v,rfl,h2,hq,he,bE hM q rv⟩
      ·exact .inr (.inl ⟨a,vs,i,v,rfl,h2,hq,he,bE hM q rv⟩)
 have str:∀z i,dx=.str z->dy=.int i->FQ X.K x y H Q:=fun z i e1 e2=>by
  subst e1 e2
  have e:(if z.cps.size<=sz then (LD.bV z.cps.size i).bind fun j=>(z.cps[j]?).map fun c=>D.str ⟨#[c]⟩ else none)=some d:=e
  split at e
  ·next hz=>
   cases e2:LD.bV z.cps.size i with
   |none=>rw [e2] at e;cases e
   | some j =>
     rw [e2,Option.bind_some] at e
     cases e3:z.cps[j]? with
     |none=>rw [e3] at e;cases e
     | some c =>
       rw [e3] at e
       have e4:D.str ⟨#[c]⟩=d:=Option.some.inj e
       subst e4
       refine .inr (.inr ⟨z,i,c,h1,h2,by rw [<- dQ];exact hz,?_,bE hM q rfl⟩)
       unfold tm
       rw [show z.cps.toList.length=z.cps.size by simp,<- vi,e2]
       simpa using e3
  ·cases e
 cases dy with
 |int i=>cases dx<;>first|exact str _ _ rfl rfl|exact gen _ rfl e
 |_=>cases dx<;>cases (show (none:Option D)=some d from e)
theorem Ft {r r':V->Option Int->Option Int->Hp->VK->Prop}(h:mU X r)(i:∀x lo hi H Q,r' x lo hi H Q->r x lo hi H Q):mU X r':=fun pins s σ H x v vl vu lo hi sl Q I rx hs pl pu q=>h pins s σ H x v vl vu lo hi sl Q I rx hs pl pu (i x lo hi H Q q)
def qi:D->Option (Option Int)
 |.non=>some none
 |.int i=>some (some i)
 |_=>none
theorem pA (n d:Nat)(x:D):LD.aV n d x=(qi x).map (HT.aV n d):=by
 cases x<;>rfl
theorem uF:mU X (fun x lo hi H Q=>∃a xs,x=.ref a/\d8 X.K H a xs/\(HT.aV xs.length 0 lo=0/\HT.aV xs.length xs.length hi=xs.length)/\Q (.ref a) H):=by
 intro pins s σ H x v vl vu lo hi sl Q I rx hs pl pu h
 obtain ⟨a,xs,rfl,hx,hw,q⟩:=h
 cases rx
 obtain ⟨its,r,ht,hz⟩:=I.tuple hx
 refine ⟨"tuple",_,PyProof.Rows.slot_tuple_getitem.lookup,ht.typeIs,?_⟩
 have hlen:its.toArray.size=xs.length:=by rw [List.size_toArray];exact r.length.symm
 rw [<- hlen] at hw
 obtain ⟨os,hos,hcs,hds⟩:=id hs
 have hTs:s.TypeIs (.ref sl) "slice":=⟨os,hos,hcs⟩
 unfold getItem
 try with_reducible refine tqo ?_
 first|refine tqa (tqb ?_)|skip
 refine tqa (wpAny_sequenceKey ht.typeIs (by decide) ?_)
 refine tqa (wpAny_callSpecial?_slot (name:=Str.ofString "__getitem__") ht.typeIs PyProof.Rows.slot_tuple_getitem
  (wpAny_call_entry PyProof.Rows.slot_tuple_getitem ht.typeIs entry_tuple_getitem ?_ (args_tuple_getitem _ _)))
 show wpAny _ _ (Builtin.Tuple.tupleItemsOf (.ref a) >>= _) _ _ s
 refine tqa (tupleItemsOf_ ht ?_)
 refine tqa (wpAny_typeOf hTs ?_)
 rw [if_pos (by decide)]
 refine tqa (HT.kA hs pl pu ?_)
 have hyes:(((HT.aV its.toArray.size 0 lo:Nat):Int)==0&&(1:Int)==1&&(HT.aV its.toArray.size its.toArray.size hi-HT.aV its.toArray.size 0 lo)==its.toArray.size)=true:=by
  rw [hw.1,hw.2];simp
 show wpAny _ _ (if (((HT.aV its.toArray.size 0 lo:Nat):Int)==0&&(1:Int)==1&&(HT.aV its.toArray.size its.toArray.size hi-HT.aV its.toArray.size 0 lo)==its.toArray.size)=true then _ else _) _ _ s
 rw [if_pos hyes]
 refine tqa (m:=Builtin.Tuple.tupleIsExact (.ref a)) ?_
 unfold Builtin.Tuple.tupleIsExact
 refine tqa (wpAny_typeOf ht.typeIs ?_)
 refine tqb ?_
 rw [if_pos (by decide)]
 exact tqa (wpAny_rule (tqb ⟨_,rfl,tqb ⟨.ref a,H,I,rfl,q⟩⟩))
def K1 (fa:Fa)(K:PySem.W.Frag)(m:Bool):V->Option Int->Option Int->Hp->VK->Prop:=fun x lo hi H Q=>∃μ M dx dl dh,RelM fa K μ H M/\Rep fa K μ H dx x/\qi dl=some lo/\qi dh=some hi/\aj (eG m dx dl dh M) (bH fa K μ H Q)
theorem Dv (m:Bool):mU X (K1 fa X.K m):=by
 refine Ft (Dw.or (Fq.or uF)) fun x lo hi H Q h=>?_
 obtain ⟨μ,M,dx,dl,dh,hM,h1,e1,e2,h⟩:=h
 have gen:aj (match gi M dx with
  | some xs => match LD.aV xs.length 0 dl, LD.aV xs.length xs.length dh with
    |some l,some h=>bT m (cut xs l h) M
    |_,_=>.bad
  |none=>.bad) (bH fa X.K μ H Q)->FK X.K x lo hi H Q:=fun h=>by
  cases e:gi M dx with
  |none=>rw [e] at h;exact h.elim
  | some xs =>
    rw [e] at h
    simp only [pA,e1,e2,Option.map_some] at h
    obtain ⟨a,vs,rfl,hq,r⟩:=cf hM h1 e
    have hl:=r.length
    obtain ⟨_,k⟩:=ib hM ((r.drop (HT.aV xs.length 0 lo)).take (HT.aV xs.length xs.length hi-HT.aV xs.length 0 lo)) h
    refine ⟨a,vs,rfl,hq,?_⟩
    unfold nU
    rw [hl]
    exact k
 have tup:∀xs,dx=.tup xs->FJ X.K x lo hi H Q\/∃a xs,x=.ref a/\d8 X.K H a xs/\(HT.aV xs.length 0 lo=0/\HT.aV xs.length xs.length hi=xs.length)/\Q (.ref a) H:=fun xs e=>by
  subst e
  have h:aj (match LD.aV xs.length 0 dl,LD.aV xs.length xs.length dh with
   |some l,some h=>.ok (.tup (cut xs l h)) M
   |_,_=>.bad) (bH fa X.K μ H Q):=h
  simp only [pA,e1,e2,Option.map_some] at h
  have h:bH fa X.K μ H Q (.tup (cut xs (HT.aV xs.length 0 lo) (HT.aV xs.length xs.length hi))) M:=h
  obtain ⟨a,vs,rfl,hq,r⟩:=h1
  have hl:=r.length
  by_cases hw:HT.aV vs.length 0 lo=0/\HT.aV vs.length vs.length hi=vs.length
  ·refine .inr ⟨a,vs,rfl,hq,hw,?_⟩
   rw [hl] at hw
   have e3:cut xs (HT.aV xs.length 0 lo) (HT.aV xs.length xs.length hi)=xs:=by rw [hw.1,hw.2];simp [cut]
   rw [e3] at h
   exact bE hM h ⟨a,vs,rfl,hq,r⟩
  ·refine .inl ⟨a,vs,rfl,hq,hw,?_⟩
   have k:=jc hM ((r.drop (HT.aV xs.length 0 lo)).take (HT.aV xs.length xs.length hi-HT.aV xs.length 0 lo)) h
   unfold nU
   rw [hl]
   exact k
 cases dx<;>first|exact .inr (tup _ rfl)|exact .inl (gen h)
def qZ (fa:Fa)(K:PySem.W.Frag)(f:vG):List V->Hp->VK->Prop:=fun vs H Q=>∃μ M ds,RelM fa K μ H M/\aX fa K μ H ds vs/\aj (gv f ds M) (bH fa K μ H Q)
theorem qe {d:D}{vs:List V}{K:PySem.W.Frag}(h:aX fa K μ H [d] vs):∃v,vs=[v]/\Rep fa K μ H d v:=by
 obtain ⟨v,r,rfl,h1,h2⟩:=h
 obtain rfl:r=[]:=h2
 exact ⟨v,rfl,h1⟩
theorem JE:dj X (.builtin "len") (qZ fa X.K .len):=mO (vA.or vv) fun vs H Q h=>by
 obtain ⟨μ,M,ds,hM,r,h⟩:=h
 match ds,r,h with
 |[],_,h=>exact h.elim
 |d::_::_,_,h=>cases d<;>exact h.elim
 | [d], r, h =>
   obtain ⟨v,rfl,hv⟩:=qe r
   have gen:aj (match cm M d with|some xs=>.ok (.int xs.length) M|none=>.bad) (bH fa X.K μ H Q)->∃p ys,[v]=[.ref p]/\(dg X.K H p ys\/d8 X.K H p ys)/\Q (.int ys.length) H:=fun h=>by
    cases e:cm M d with
    |none=>rw [e] at h;exact h.elim
    | some xs =>
      rw [e] at h
      obtain ⟨a,vs,rfl,hq,r⟩:=kJ hM hv e
      refine ⟨a,vs,rfl,hq,?_⟩
      rw [r.length]
      exact bE (v:=.int xs.length) hM h rfl
   have str:∀x,d=.str x->∃z,[v]=[V.str z]/\z.length<=sizeLine/\Q (.int z.length) H:=fun x e=>by
    subst e
    have h:aj (if x.cps.size<=sz then .ok (.int x.cps.size) M else .bad) (bH fa X.K μ H Q):=h
    split at h
    ·next c=>exact ⟨x,by rw [show v=.str x from hv],by rw [<- dQ];exact c,bE (v:=.int x.cps.size) hM h rfl⟩
    ·exact h.elim
   cases d<;>first|exact .inr (str _ rfl)|exact .inl (gen h)
theorem Es:dj X (.type "tuple") (qZ fa X.K .tuple):=mO tM fun vs H Q h=>by
 obtain ⟨μ,M,ds,hM,r,h⟩:=h
 match ds,r,h with
 |[],_,h=>exact h.elim
 |d::_::_,_,h=>cases d<;>exact h.elim
 | [d], r, h =>
   obtain ⟨v,rfl,hv⟩:=qe r
   have gen:aj (match gi M d with|some xs=>.ok (.tup xs) M|none=>.bad) (bH fa X.K μ H Q)->∃p ys,[v]=[.ref p]/\((dg X.K H p ys/\∀l,H l=none->Q (.ref l) (upd H l (.tup ys)))\/(d8 X.K H p ys/\Q (.ref p) H)):=fun h=>by
    cases e:gi M d with
    |none=>rw [e] at h;exact h.elim
    | some xs =>
      rw [e] at h
      obtain ⟨a,vs,rfl,hq,r⟩:=cf hM hv e
      exact ⟨a,vs,rfl,.inl ⟨hq,jc hM r h⟩⟩
   have tup:∀x,d=.tup x->∃p ys,[v]=[.ref p]/\((dg X.K H p ys/\∀l,H l=none->Q (.ref l) (upd H l (.tup ys)))\/(d8 X.K H p ys/\Q (.ref p) H)):=fun x e=>by
    subst e
    obtain ⟨a,vs,rfl,hq,r⟩:=id hv
    exact ⟨a,vs,rfl,.inr ⟨hq,bE hM h hv⟩⟩
   cases d<;>first|exact tup _ rfl|exact gen h
theorem HS (m:Bool):dj X (.type "list") (qZ fa X.K (.list m)):=mO vt fun vs H Q h=>by
 obtain ⟨μ,M,ds,hM,r,h⟩:=h
 match ds,r,h with
 |[],_,h=>exact h.elim
 |_::_::_,_,h=>exact h.elim
 | [d], r, h =>
   obtain ⟨v,rfl,hv⟩:=qe r
   have h:aj (match cm M d with|some xs=>bT m xs M|none=>.bad) (bH fa X.K μ H Q):=h
   cases e:cm M d with
   |none=>rw [e] at h;exact h.elim
   | some xs =>
     rw [e] at h
     obtain ⟨a,vs,rfl,hq,r⟩:=kJ hM hv e
     obtain ⟨_,k⟩:=ib hM r h
     exact ⟨a,vs,rfl,hq,k⟩
end
end LD
namespace LD
open PySem PySem.Spec PyProof.Rows L2
section
variable {fa:Fa}{X:Cx}{μ:Mu}{H:Hp}{σ:L2.St}{pins:List (Addr×Obj)}{s:Shared}{M:Mem}
theorem KH {d:D}{v:V}{k:Bool}(hM:RelM fa X.K μ H M)(h:Rep fa X.K μ H d v)(e:lI M d=some k):Cn X.K v H k:=by
 cases d with
 |non=>obtain rfl:v=.non:=h;exact (Option.some.inj e).symm
 |bl b=>obtain rfl:v=.bl b:=h;exact (Option.some.inj e).symm
 |int i=>obtain rfl:v=.int i:=h;exact (Option.some.inj e).symm
 | str x =>
   obtain rfl:v=.str x:=h
   have e:(if x.cps.size<=sz then some (x.cps.size != 0) else none)=some k:=e
   split at e
   ·next c=>
    refine ⟨by rw [<- dQ];exact c,?_⟩
    rw [<- Option.some.inj e]
    show (x.cps.size != 0)=((x.cps.size:Int) != 0)
    rw [Bool.eq_iff_iff];simp
   ·cases e
 | tup ds =>
   obtain ⟨a,vs,rfl,hq,r⟩:=h
   refine .inr (.inl ⟨vs,hq,?_⟩)
   rw [<- Option.some.inj e]
   have:=r.length
   cases vs<;>cases ds<;>simp_all
 | lst ds =>
   obtain ⟨a,vs,rfl,hq,r⟩:=cf (ds:=ds) hM h rfl
   refine .inl ⟨vs,hq,?_⟩
   rw [<- Option.some.inj e]
   have:=r.length
   cases vs<;>cases ds<;>simp_all
 | frz ds =>
   obtain ⟨a,vs,rfl,hq,r⟩:=cf (ds:=ds) hM h rfl
   refine .inl ⟨vs,hq,?_⟩
   rw [<- Option.some.inj e]
   have:=r.length
   cases vs<;>cases ds<;>simp_all
 | cell c =>
   have e:(M[c]?).map (fun ds=>!ds.isEmpty)=some k:=e
   cases e1:M[c]? with
   |none=>rw [e1] at e;cases e
   | some ds =>
     rw [e1] at e
     obtain ⟨a,vs,rfl,hq,r⟩:=cf (ds:=ds) hM h e1
     refine .inl ⟨vs,hq,?_⟩
     rw [<- Option.some.inj e]
     have:=r.length
     cases vs<;>cases ds<;>simp_all
 |fn f=>cases e
 |exc y p=>cases e
theorem ny:∀{ds:List D}{bs:List Bool}{vs:List V}{us:List Value},boolsOf ds=some bs->aX fa X.K μ H ds vs->Vals vs us->PyProof.Rows.LSm.BoolsAre us bs:=by
 intro ds
 induction ds with
 | nil =>
   intro bs vs us e h r
   obtain rfl:vs=[]:=h
   cases r;cases e
   exact .nil
 | cons d ds ih =>
   intro bs vs us e h r
   obtain ⟨v,vr,rfl,h1,h2⟩:=h
   cases r with
   | cons r1 r2 =>
     cases d with
     | bl b =>
       have e:(boolsOf ds).map (b::·)=some bs:=e
       cases e1:boolsOf ds with
       |none=>rw [e1] at e;cases e
       | some cs =>
         rw [e1] at e
         have e2:b::cs=bs:=Option.some.inj e
         subst e2
         obtain rfl:v=.bl b:=h1
         obtain rfl:_=Value.bool b:=r1
         exact .cons b (ih e1 h2 r2)
     |_=>cases e
theorem rW:dj X (.builtin "all") (fun xs H Q=>∃μ ds bs p vs,xs=[.ref p]/\X.calm=true/\dg X.K H p vs/\aX fa X.K μ H ds vs/\boolsOf ds=some bs/\Q (.bl (bs.all id)) H):=by
 intro pins s σ H xs us Q I r h
 obtain ⟨μ,ds,bs,p,vs,rfl,hc,hq,rl,eb,q⟩:=h
 obtain ⟨u,rfl,rx⟩:=vals1 r
 cases rx
 obtain ⟨its,rv,pl,hz⟩:=I.list hq
 have hb:=ny eb rl rv
 have hlt:p<s.heap.objs.size:=pl.lt
 refine call_all_walk (wpAny_pyIter_list pl.isList ?_)
 refine ⟨s.heap.objs.size,[s.heap.objs.size,p],[s.heap.objs.size],its.toArray.size,_,_,fun i=>(bs[i]?).getD true,rfl,Walks.list (A:=X.A.in1) (I.ok.hd hc) _ p (tqk hlt) its.toArray,
  ⟨⟨_,tqe _ rfl,rfl,rfl⟩,pl.isList.push _⟩,fun i v s' Q' E' hP hQ=>?_,fun h' tk hk=>?_⟩
 ·obtain ⟨b,e,rfl⟩:=hb.get i v (by simpa using hP)
  simp only [e,Option.getD_some] at hQ
  exact tqp hQ
 ·have e:((List.range its.toArray.size).all fun i=>(bs[i]?).getD true)=bs.all id:=by
   rw [List.size_toArray,hb.length];exact PyProof.Rows.LSm.range_all bs
  rw [e]
  exact ⟨.bl _,H,I.kept (PyProof.Rows.LSm.kept_iter hk),rfl,q⟩
theorem JF (hc:X.calm=true):dj X (.builtin "all") (qZ fa X.K .all):=mO (rW (fa:=fa)) fun vs H Q h=>by
 obtain ⟨μ,M,ds,hM,r,h⟩:=h
 match ds,r,h with
 |[],_,h=>exact h.elim
 |d::_::_,_,h=>exact h.elim
 | [d], r, h =>
   obtain ⟨v,rfl,hv⟩:=qe r
   have h:aj (match gi M d with|some xs=>(match boolsOf xs with|some bs=>.ok (.bl (bs.all id)) M|none=>.bad)|none=>.bad) (bH fa X.K μ H Q):=h
   cases e:gi M d with
   |none=>rw [e] at h;exact h.elim
   | some xs =>
     rw [e] at h
     simp only at h
     cases e2:boolsOf xs with
     |none=>rw [e2] at h;exact h.elim
     | some bs =>
       rw [e2] at h
       obtain ⟨a,vs,rfl,hq,r⟩:=cf hM hv e
       exact ⟨μ,xs,bs,a,vs,rfl,hc,hq,r,e2,bE (v:=.bl (bs.all id)) hM h rfl⟩
def tyName:Ty->String
 |.int=>"int" | .bool=>"bool" | .str=>"str" | .tuple=>"tuple" | .list=>"list" | .own _=>""
def Kb:D->String
 |.non=>"NoneType" | .bl _=>"bool" | .int _=>"int" | .str _=>"str" | .tup _=>"tuple" | _=>"list"
theorem IP (t:Ty)(d:D)(b:Bool)(ht:∀c,t≠.own c)(e:bX t d=some b):PySem.W.kitOne X.K (.type (Kb d)) (.type (tyName t))=some b:=by
 cases t with
 |own c=>exact absurd rfl (ht c)
 |_=>cases d<;>first|(cases (show (none:Option Bool)=some b from e))|(have e':=Option.some.inj e;subst e';(first|rfl|decide +kernel))
theorem AN {d:D}{v:V}{b:Bool}{t:Ty}(hM:RelM fa X.K μ H M)(h:Rep fa X.K μ H d v)(e:bX t d=some b)(I:Inv X pins σ H s){u c:Value}(r:RelV v u){Q:Value->Shared->Prop}
 (ek:PySem.W.kitOne X.K (.type (Kb d)) c=some b) (q:∀tk,Q (.bool b) {s with toks:=tk}):wpAny (model X.prog X.w) X.A (call (.builtin "isinstance") [u,c]) Q X.xe s:=by
 cases d with
 |non=>obtain rfl:v=.non:=h;exact lC I r .non ek q
 |bl x=>obtain rfl:v=.bl x:=h;exact lC I r (.bl x) ek q
 |int x=>obtain rfl:v=.int x:=h;exact lC I r (.int x) ek q
 |str x=>obtain rfl:v=.str x:=h;exact lC I r (.str x) ek q
 | tup ds =>
   obtain ⟨a,vs,rfl,hq,_⟩:=h
   obtain rfl:u=Value.ref a:=r
   obtain ⟨its,rv,⟨o,h1,h2,_⟩,_⟩:=I.tuple hq
   exact PySem.W.kia_one PySem.W.kitx_tuple I.kIn ⟨o,h1,h2⟩ ek (fun z=>nomatch z) q
 | lst ds =>
   obtain ⟨a,vs,rfl,hq,_⟩:=cf (ds:=ds) hM h rfl
   obtain rfl:u=Value.ref a:=r
   obtain ⟨its,rv,⟨o,n,h1,h2,_⟩,_⟩:=I.list hq
   exact PySem.W.kia_one PySem.W.kitx_list I.kIn ⟨o,h1,h2⟩ ek (fun z=>nomatch z) q
 | frz ds =>
   obtain ⟨a,vs,rfl,hq,_⟩:=cf (ds:=ds) hM h rfl
   obtain rfl:u=Value.ref a:=r
   obtain ⟨its,rv,⟨o,n,h1,h2,_⟩,_⟩:=I.list hq
   exact PySem.W.kia_one PySem.W.kitx_list I.kIn ⟨o,h1,h2⟩ ek (fun z=>nomatch z) q
 | cell k =>
   obtain ⟨a,rfl,hk⟩:=h
   obtain ⟨ds,vs,_,hq,_⟩:=hM.mu_lt hk
   obtain rfl:u=Value.ref a:=r
   obtain ⟨its,rv,⟨o,n,h1,h2,_⟩,_⟩:=I.list (dg.of hq)
   exact PySem.W.kia_one PySem.W.kitx_list I.kIn ⟨o,h1,h2⟩ ek (fun z=>nomatch z) q
 |fn f=>cases e
 |exc y p=>cases e
def Je (fa:Fa)(K:PySem.W.Frag)(t:Ty):List V->Hp->VK->Prop:=fun vs H Q=>∃μ M d v b,vs=[v,.ty (tyName t)]/\RelM fa K μ H M/\Rep fa K μ H d v/\bX t d=some b/\Q (.bl b) H
theorem HU (t:Ty)(ht:∀c,t≠.own c):dj X (.builtin "isinstance") (Je fa X.K t):=by
 intro pins s σ H xs us Q I r h
 obtain ⟨μ,M,d,v,b,rfl,hM,hv,e,q⟩:=h
 obtain ⟨u,w,rfl,r1,r2⟩:=vals2 r
 obtain rfl:w=Value.type (tyName t):=r2
 exact AN hM hv e I r1 (IP t d b ht e) fun tk=>⟨.bl b,H,I.tok _,rfl,q⟩
end
end LD
namespace LD
open PySem PySem.Spec PyProof.Rows L2
section
variable {fa:Fa}{X:Cx}
abbrev DE (fa:Fa)(X:Cx)(e:Expr)(g:Env->Mem->Res D):Prop:=PE X e (tE fa X.K g)
abbrev DT (fa:Fa)(X:Cx)(e:Expr)(g:Env->Mem->Res Bool):Prop:=PT X e (tT fa X.K g)
abbrev DW (fa:Fa)(X:Cx)(e:Expr)(g:Env->Mem->Res Bool):Prop:=PW X e (tT fa X.K g)
abbrev DA (fa:Fa)(X:Cx)(es:List Expr)(g:Env->Mem->Res (List D)):Prop:=PA X es (tA fa X.K g)
abbrev DS (fa:Fa)(X:Cx)(st:Stmt)(g:Env->Mem->Res Fl):Prop:=PS X st (tF fa X g)
abbrev g8 (fa:Fa)(X:Cx)(st:List Stmt)(g:Env->Mem->Res Fl):Prop:=n5 X st (tF fa X g)
variable {a b d:Expr}{ga gb gd:Env->Mem->Res D}{pos:Pos}
theorem JJ {i:Nat}{x:Str}(hN:X.N[i]?=some x)(hv:tu X.env.scope x)(hd:(x==("__debug__":Str))=false)(hcd:(x==("__classdict__":Str))=false) :
 DE fa X (.Name x pos) (fun Z M=>cZ M (Z[i]?.getD none)):=cn (qh hN hv hd hcd) fun σ H Q ⟨μ,Z,M,hE,hM,h⟩=>by
 obtain ⟨d,e,w⟩:=om h
 have e':Z[i]?=some (some d):=by
  cases q:Z[i]? with
  |none=>rw [q] at e;cases e
  |some o=>rw [q] at e;simp at e;rw [e]
 obtain ⟨v,h1,h2⟩:=hE.at' i d e'
 exact ⟨v,h1,bE hM w h2⟩
theorem l8 {e:Expr}{dc:D}{v:V}(h:PE X e (tC v))(r:∀μ H,Rep fa X.K μ H dc v):DE fa X e (fun _ M=>.ok dc M):=cn h fun σ H Q ⟨μ,Z,M,hE,hM,h⟩=>bE hM h (r μ H)
theorem JT {i:Int}{j:Nat}:DE fa X (.Constant (.int i) j pos) (fun _ M=>.ok (.int i) M):=l8 (v:=.int i) zm fun _ _=>rfl
theorem L7 {i:Bool}{j:Nat}:DE fa X (.Constant (.bool i) j pos) (fun _ M=>.ok (.bl i) M):=l8 (v:=.bl i) xj fun _ _=>rfl
theorem JL {i:Str}{j:Nat}:DE fa X (.Constant (.str i) j pos) (fun _ M=>.ok (.str i) M):=l8 (v:=.str i) Ge fun _ _=>rfl
theorem JP {j:Nat}:DE fa X (.Constant .none j pos) (fun _ M=>.ok .non M):=l8 (v:=.non) Gi fun _ _=>rfl
theorem t2 {μ:Mu}{H:Hp}{σ:L2.St}{Z:Env}{M:Mem}{β:Type}{f:D->D->Mem->Res β}{P:β->Mem->Prop}{R:V->V->Hp->Prop}(hE:bK fa X.K μ H σ Z)(hM:RelM fa X.K μ H M)
 (h:aj ((ga Z M).bind fun x M=>(gb Z M).bind fun y M=>f x y M) P)
 (k:∀x y M2 v u H2 μ2,Ext μ H μ2 H2->bK fa X.K μ2 H2 σ Z->RelM fa X.K μ2 H2 M2->Rep fa X.K μ2 H2 x v->Rep fa X.K μ2 H2 y u->aj (f x y M2) P->R v u H2) :
 tE fa X.K ga σ H fun v H1=>tE fa X.K gb σ H1 fun u H2=>R v u H2:=
 t1 hE hM h fun x M1 v H1 μ1 x1 hE1 hM1 r1 h1=>t1 hE1 hM1 h1 fun y M2 u H2 μ2 x2 hE2 hM2 r2 h2=>k x y M2 v u H2 μ2 (x1.trans x2) hE2 hM2 (r1.ext x2) r2 h2
theorem JX (m:Bool)(o:pb)(ha:DE fa X a ga)(hb:DE fa X b gb):DE fa X (.BinOp a (binOp o) b pos) (fun Z M=>(ga Z M).bind fun x M=>(gb Z M).bind fun y M=>fv m o x y M):=
 cn (Jj (J6 m o) ha hb) fun σ H Q ⟨μ,Z,M,hE,hM,h⟩=>t2 hE hM h fun x y M2 v u H2 μ2 x2 hE2 hM2 r1 r2 h2=>⟨μ2,M2,x,y,hM2,r1,r2,lV h2 x2⟩
theorem qp {r:Option Bool}{M:Mem}{P:D->Mem->Prop}(h:aj ((cZ M r).bind fun b M=>.ok (.bl b) M) P):∃b,r=some b/\P (.bl b) M:=by
 obtain ⟨b,M1,e,q⟩:=a9 h
 cases r with
 |none=>cases e
 |some b'=>cases e;exact ⟨_,rfl,q⟩
theorem JV (hu:Rm X)(o:ir)(ha:DE fa X a ga)(hb:DE fa X b gb)(hm:behindInMarks (cW o) b=false) :
 DE fa X (.Compare a [cW o] [b] pos) (fun Z M=>(ga Z M).bind fun x M=>(gb Z M).bind fun y M=>(cZ M (bP o x y M)).bind fun b M=>.ok (.bl b) M):=
 cn (D3 (oJ hu o) ha hb hm) fun σ H Q ⟨μ,Z,M,hE,hM,h⟩=>t2 hE hM h fun x y M2 v u H2 μ2 x2 hE2 hM2 r1 r2 h2=>by
  obtain ⟨b,e,q⟩:=qp h2
  exact ⟨μ2,M2,x,y,b,hM2,r1,r2,e,bE (v:=.bl b) hM2 (q.ext x2) rfl⟩
theorem H9 (hu:Rm X)(o:ir)(ha:DE fa X a ga)(hb:DE fa X b gb)(hm:behindInMarks (cW o) b=false) :
 DT fa X (.Compare a [cW o] [b] pos) (fun Z M=>((ga Z M).bind fun x M=>(gb Z M).bind fun y M=>(cZ M (bP o x y M)).bind fun b M=>.ok (.bl b) M).bind fun x M=>cZ M (lI M x)):=
 nE (we (oJ hu o) ha hb hm) fun σ H Q ⟨μ,Z,M,hE,hM,h⟩=>by
  obtain ⟨z,M3,e,q⟩:=a9 h
  have h':aj ((ga Z M).bind fun x M=>(gb Z M).bind fun y M=>(cZ M (bP o x y M)).bind fun b M=>.ok (.bl b) M) (fun d M=>d=z/\M=M3):=by rw [e];exact ⟨rfl,rfl⟩
  refine t2 hE hM h' fun x y M2 v u H2 μ2 x2 hE2 hM2 r1 r2 h2=>?_
  obtain ⟨b,e1,e2,e3⟩:=qp h2
  subst e2 e3
  exact ⟨μ2,M2,x,y,b,hM2,r1,r2,e1,b,rfl,q H2 μ2 x2 hM2⟩
theorem Dk {g:Env->Mem->Res D}{σ:L2.St}{H:Hp}{Q:Bool->Hp->Prop}(hb:∀Z M x M',g Z M=.ok x M'->∃k,x=.bl k)(h:tT fa X.K (fun Z M=>(g Z M).bind fun x M=>cZ M (lI M x)) σ H Q) :
 tE fa X.K g σ H (fun x H'=>∃k,x=.bl k/\Q k H'):=by
 obtain ⟨μ,Z,M,hE,hM,h⟩:=h
 obtain ⟨x,M1,e,q⟩:=a9 h
 obtain ⟨k,rfl⟩:=hb Z M x M1 e
 refine ⟨μ,Z,M,hE,hM,?_⟩
 rw [e]
 intro v H1 μ1 x1 m1 r1
 obtain rfl:v=.bl k:=r1
 exact ⟨k,rfl,q H1 μ1 x1 m1⟩
theorem CS {o o':ir}{gc:Env->Mem->Res D}(σ:L2.St)(H:Hp)(Q:VK):tE fa X.K (fun Z M=>(ga Z M).bind fun x M=>(gb Z M).bind fun y M=>(cZ M (bP o x y M)).bind fun k M=>
 if k then (gc Z M).bind fun z M=>(cZ M (bP o' y z M)).bind fun b M=>.ok (.bl b) M else .ok (.bl false) M) σ H Q->uq (iI fa X.K o) (iI fa X.K o') (tE fa X.K ga) (tE fa X.K gb) (tE fa X.K gc) σ H Q:=fun ⟨μ,Z,M,hE,hM,h⟩=>by
 refine t2 hE hM h fun x y M2 v u H2 μ2 x2 hE2 hM2 r1 r2 h2=>?_
 obtain ⟨k,M3,e,q⟩:=a9 h2
 cases ec:bP o x y M2 with
 |none=>rw [ec] at e;cases e
 | some k' =>
   rw [ec] at e
   cases e
   refine ⟨μ2,_,x,y,k,hM2,r1,r2,ec,k,rfl,?_⟩
   cases k with
   |false=>exact bE (v:=.bl false) hM2 (bH.ext q x2) rfl
   | true =>
     refine t1 hE2 hM2 q fun z M4 w H4 μ4 x4 hE4 hM4 r4 h4=>?_
     obtain ⟨b,e4,q4⟩:=qp h4
     exact ⟨μ4,M4,y,z,b,hM4,r2.ext x4,r4,e4,bE (v:=.bl b) hM4 (q4.ext (x2.trans x4)) rfl⟩
theorem JW (hu:Rm X)(o o':ir){gc:Env->Mem->Res D}(ha:DE fa X a ga)(hb:DE fa X b gb)(hc:DE fa X d gc)(hm:lastMarks [cW o,cW o'] [b,d]=false) :
 DE fa X (.Compare a [cW o,cW o'] [b,d] pos) (fun Z M=>(ga Z M).bind fun x M=>(gb Z M).bind fun y M=>(cZ M (bP o x y M)).bind fun k M=>
  if k then (gc Z M).bind fun z M=>(cZ M (bP o' y z M)).bind fun b M=>.ok (.bl b) M else .ok (.bl false) M):=cn (Bm (oJ hu o) (oJ hu o') ha hb hc hm) CS
theorem Bv {r:Option Bool}{M M':Mem}{x:D}(h:((cZ M r).bind fun b M=>Res.ok (.bl b) M)=.ok x M'):∃k,x=.bl k:=by
 cases r with
 |none=>cases h
 |some b=>cases h;exact ⟨b,rfl⟩
theorem fF {α β:Type}{r:Res α}{f:α->Mem->Res β}{x:β}{M:Mem}(h:r.bind f=.ok x M):∃a M1,r=.ok a M1/\f a M1=.ok x M:=by
 cases r with
 |ok a M1=>exact ⟨a,M1,rfl,h⟩
 |err=>cases h
 |bad=>cases h
theorem Ia (hu:Rm X)(o o':ir){gc:Env->Mem->Res D}(ha:DE fa X a ga)(hb:DE fa X b gb)(hc:DE fa X d gc)(hm:lastMarks [cW o,cW o'] [b,d]=false) :
 DT fa X (.Compare a [cW o,cW o'] [b,d] pos) (fun Z M=>((ga Z M).bind fun x M=>(gb Z M).bind fun y M=>(cZ M (bP o x y M)).bind fun k M=>
  if k then (gc Z M).bind fun z M=>(cZ M (bP o' y z M)).bind fun b M=>.ok (.bl b) M else .ok (.bl false) M).bind fun x M=>cZ M (lI M x)):=
 nE (Bi (oJ hu o) (oJ hu o') ha hb hc hm) fun σ H Q h=>CS σ H _ (Dk (fun Z M x M' e=>by
  obtain ⟨x1,M1,_,e⟩:=fF e
  obtain ⟨x2,M2,_,e⟩:=fF e
  obtain ⟨k,M3,_,e⟩:=fF e
  cases k with
  |false=>cases e;exact ⟨_,rfl⟩
  | true =>
    obtain ⟨x4,M4,_,e⟩:=fF e
    exact Bv e) h)
theorem JQ (ha:DE fa X a ga):DE fa X (.UnaryOp .USub a pos) (fun Z M=>(ga Z M).bind fun x M=>match x with|.int i=>.ok (.int (-i)) M|_=>.bad):=
 cn (CD yK ha) fun σ H Q ⟨μ,Z,M,hE,hM,h⟩=>t1 hE hM h fun x M1 v H1 μ1 x1 hE1 hM1 r1 h1=>by
  cases x with
  |int i=>exact ⟨i,r1,bE (v:=.int (-i)) hM1 (bH.ext h1 x1) rfl⟩
  |_=>exact h1.elim
theorem JY {rest:List Expr}(ha:DE fa X a ga)(hb:DE fa X (.BoolOp .And (b::rest) pos) gb):DE fa X (.BoolOp .And (a::b::rest) pos) (fun Z M=>(ga Z M).bind fun x M=>match x with
 |.bl true=>gb Z M
 |.bl false=>.ok (.bl false) M
 |_=>.bad):=
 cn (Gm ha hb) fun σ H Q ⟨μ,Z,M,hE,hM,h⟩=>t1 hE hM h fun x M1 v H1 μ1 x1 hE1 hM1 r1 h1=>by
  cases x with
  | bl k =>
    refine ⟨k,r1,?_⟩
    cases k with
    |true=>exact ⟨μ1,Z,M1,hE1,hM1,lV h1 x1⟩
    |false=>exact bE (v:=.bl false) hM1 (bH.ext h1 x1) rfl
  |_=>exact h1.elim
theorem JN {op:PySem.BoolOp}(ha:DE fa X a ga):DE fa X (.BoolOp op [a] pos) ga:=Gg ha
theorem JO (ha:DE fa X a ga):DE fa X (.UnaryOp .Not a pos) (fun Z M=>(ga Z M).bind fun x M=>match x with|.bl k=>.ok (.bl (!k)) M|_=>.bad):=
 cn (Gh ha) fun σ H Q ⟨μ,Z,M,hE,hM,h⟩=>t1 hE hM h fun x M1 v H1 μ1 x1 hE1 hM1 r1 h1=>by
  cases x with
  |bl k=>exact ⟨k,r1,bE (v:=.bl (!k)) hM1 (bH.ext h1 x1) rfl⟩
  |_=>exact h1.elim
variable {ta tb:Env->Mem->Res Bool}
theorem ED (ha:DT fa X a ta):DW fa X (.BoolOp .And [a] pos) ta:=DP ha
theorem HY (ha:DT fa X a ta):DW fa X (.BoolOp .Or [a] pos) ta:=FT ha
theorem Ki {b':Res Bool}{μ μ':Mu}{H H':Hp}{Q:Bool->Hp->Prop}(x:Ext μ H μ' H')(h:aj b' fun b M'=>∀H'' μ'',Ext μ H μ'' H''->RelM fa X.K μ'' H'' M'->Q b H''):aj b' fun b M'=>∀H'' μ'',Ext μ' H' μ'' H''->RelM fa X.K μ'' H'' M'->Q b H'':=
 bo h fun b M q H'' μ'' y m=>q H'' μ'' (x.trans y) m
theorem HZ {rest:List Expr}(ha:DT fa X a ta)(hb:DW fa X (.BoolOp .And (b::rest) pos) tb):DW fa X (.BoolOp .And (a::b::rest) pos) (fun Z M=>(ta Z M).bind fun k M=>if k then tb Z M else .ok false M):=
 zh (FU ha hb) fun σ H Q ⟨μ,Z,M,hE,hM,h⟩=>yQ hE hM h fun k M1 H1 μ1 x1 hE1 hM1 h1=>by
  cases k with
  |true=>exact ⟨μ1,Z,M1,hE1,hM1,Ki x1 h1⟩
  |false=>exact h1 H1 μ1 x1 hM1
theorem JI {rest:List Expr}(ha:DT fa X a ta)(hb:DW fa X (.BoolOp .Or (b::rest) pos) tb):DW fa X (.BoolOp .Or (a::b::rest) pos) (fun Z M=>(ta Z M).bind fun k M=>if k then .ok true M else tb Z M):=
 zh (Jh ha hb) fun σ H Q ⟨μ,Z,M,hE,hM,h⟩=>yQ hE hM h fun k M1 H1 μ1 x1 hE1 hM1 h1=>by
  cases k with
  |true=>exact h1 H1 μ1 x1 hM1
  |false=>exact ⟨μ1,Z,M1,hE1,hM1,Ki x1 h1⟩
theorem H8 (ha:DT fa X a ta):DT fa X (.UnaryOp .Not a pos) (fun Z M=>(ta Z M).bind fun k M=>.ok (!k) M):=
 nE (FV ha) fun σ H Q ⟨μ,Z,M,hE,hM,h⟩=>yQ hE hM h fun k M1 H1 μ1 x1 hE1 hM1 h1=>h1 H1 μ1 x1 hM1
theorem B9 (ha:DE fa X a ga)(he:∀whole,isTrue a X.env whole=(do let v <- whole;standAt a.pos;holding [v] (truthy v))):DT fa X a (fun Z M=>(ga Z M).bind fun x M=>cZ M (lI M x)):=
 nE (Bh ha he) fun σ H Q ⟨μ,Z,M,hE,hM,h⟩=>t1 hE hM h fun x M1 v H1 μ1 x1 hE1 hM1 r1 h1=>by
  obtain ⟨k,e,q⟩:=om h1
  exact ⟨k,KH hM1 r1 e,q H1 μ1 x1 hM1⟩
theorem JS {c:Expr}{gc:Env->Mem->Res Bool}(hc:DT fa X c gc)(ha:DE fa X a ga)(hb:DE fa X b gb):DE fa X (.IfExp c a b pos) (fun Z M=>(gc Z M).bind fun k M=>if k then ga Z M else gb Z M):=
 cn (Bl hc ha hb) fun σ H Q ⟨μ,Z,M,hE,hM,h⟩=>yQ hE hM h fun k M1 H1 μ1 x1 hE1 hM1 h1=>by
  cases k with
  |true=>exact ⟨μ1,Z,M1,hE1,hM1,lV h1 x1⟩
  |false=>exact ⟨μ1,Z,M1,hE1,hM1,lV h1 x1⟩
theorem JU (ha:DE fa X a ga)(hb:DE fa X b gb)(hs:md b):DE fa X (.Subscript a b pos) (fun Z M=>(ga Z M).bind fun x M=>(gb Z M).bind fun y M=>cZ M (fq x y M)):=
 cn (CF Jz ha hb hs) fun σ H Q ⟨μ,Z,M,hE,hM,h⟩=>t2 hE hM h fun x y M2 v u H2 μ2 x2 hE2 hM2 r1 r2 h2=>by
  obtain ⟨d,e,q⟩:=om h2
  exact ⟨μ2,M2,x,y,d,hM2,r1,r2,e,q.ext x2⟩
def DO (fa:Fa)(X:Cx)(e:Option Expr)(hp:Bool)(g:Env->Mem->Res D):Prop:=PO X e fun σ H Q=>∃μ Z M,bK fa X.K μ H σ Z/\RelM fa X.K μ H M/\aj (g Z M) fun d M'=>∃o,cw hp d=true/\qi d=some o/\∀H' μ',Ext μ H μ' H'->RelM fa X.K μ' H' M'->Q o H'
theorem EI:DO fa X none false (fun _ M=>.ok .non M):=fun pins s σ H Q I ⟨μ,Z,M,hE,hM,o,_,e,k⟩=>by
 cases e
 exact DZ pins s σ H Q I (k H μ .refl hM)
theorem EH (ha:DE fa X a ga):DO fa X (some a) true ga:=fun pins s σ H Q I ⟨μ,Z,M,hE,hM,h⟩=>DY ha pins s σ H Q I ⟨μ,Z,M,hE,hM,bo h fun d M' ⟨o,p,e,k⟩ v H' μ' x m r=>by
 cases d with
 |int i=>cases e;exact ⟨i,r,k H' μ' x m⟩
 |_=>cases p⟩
theorem part_of {hp:Bool}{d:D}(h:cw hp d=true):∃o,qi d=some o:=by
 cases hp<;>cases d<;>first|exact ⟨_,rfl⟩|cases h
theorem JM (m hl hh:Bool){lo hi:Option Expr}{gl gh:Env->Mem->Res D}{p2:Pos}(ha:DE fa X a ga)(hlo:DO fa X lo hl gl)(hhi:DO fa X hi hh gh):DE fa X (.Subscript a (.Slice lo hi none p2) pos)
 (fun Z M=>(ga Z M).bind fun x M=>(gl Z M).bind fun l M=>(gh Z M).bind fun h M=>if cw hl l&&cw hh h then eG m x l h M else .bad):=
 cn (uS (Dv (fa:=fa) m) ha hlo hhi) fun σ H Q ⟨μ,Z,M,hE,hM,h⟩=>t1 hE hM h fun x M1 v H1 μ1 x1 hE1 hM1 r1 h1=>by
  obtain ⟨l,M2,e2,h2⟩:=a9 h1
  obtain ⟨u,M3,e3,h3⟩:=a9 h2
  split at h3
  ·next c=>
   rw [Bool.and_eq_true] at c
   obtain ⟨ol,el⟩:=part_of c.1
   obtain ⟨ou,eu⟩:=part_of c.2
   refine ⟨μ1,Z,M1,hE1,hM1,?_⟩
   rw [e2]
   refine ⟨ol,c.1,el,fun H2 μ2 x2 hM2=>⟨μ2,Z,M2,hE1.ext x2,hM2,?_⟩⟩
   rw [e3]
   exact ⟨ou,c.2,eu,fun H3 μ3 x3 hM3=>⟨μ3,M3,x,l,u,hM3,(r1.ext x2).ext x3,el,eu,lV h3 ((x1.trans x2).trans x3)⟩⟩
  ·exact h3.elim
theorem Im:DA fa X [] (fun _ M=>.ok [] M):=zu eh fun σ H Q ⟨μ,Z,M,hE,hM,h⟩=>h [] H μ .refl hM rfl
theorem EU {es:List Expr}{gs:Env->Mem->Res (List D)}(ha:DE fa X a ga)(hs:DA fa X es gs)(h0:starEach (a::es) X.env=(false,eval a X.env)::starEach es X.env) :
 DA fa X (a::es) (fun Z M=>(ga Z M).bind fun x M=>(gs Z M).bind fun xs M=>.ok (x::xs) M):=
 zu (cp ha hs h0) fun σ H Q ⟨μ,Z,M,hE,hM,h⟩=>t1 hE hM h fun x M1 v H1 μ1 x1 hE1 hM1 r1 h1=>ur hE1 hM1 h1 fun xs M2 vs H2 μ2 x2 hE2 hM2 r2 h2=>h2 (v::vs) H2 μ2 (x1.trans x2) hM2 ⟨v,vs,rfl,r1.ext x2,r2⟩
theorem JK {es:List Expr}{gs:Env->Mem->Res (List D)}{k:Nat}(hs:DA fa X es gs):DE fa X (.Tuple es k pos) (fun Z M=>(gs Z M).bind mE):=
 cn (Gd hs) fun σ H Q ⟨μ,Z,M,hE,hM,h⟩=>ur hE hM h fun xs M1 vs H1 μ1 x1 hE1 hM1 r1 h1=>by
  unfold mE at h1
  split at h1
  ·next c=>exact ⟨by rw [r1.length,<- dQ];exact c,jc hM1 r1 (bH.ext h1 x1)⟩
  ·exact h1.elim
theorem JR (m:Bool){es:List Expr}{gs:Env->Mem->Res (List D)}(hs:DA fa X es gs):DE fa X (.List es pos) (fun Z M=>(gs Z M).bind (bT m)):=
 cn (Gj hs) fun σ H Q ⟨μ,Z,M,hE,hM,h⟩=>ur hE hM h fun xs M1 vs H1 μ1 x1 hE1 hM1 r1 h1=>by
  obtain ⟨c,k⟩:=ib hM1 r1 (lV h1 x1)
  exact ⟨by rw [r1.length,<- dQ];exact c,k⟩
end
end LD
namespace LD
open PySem PySem.Spec PyProof.Rows L2
theorem nR (o:Obj)(f:Array Value->Array Value):(o.mapFields f).dict=o.dict:=by
 obtain ⟨c,d,dt,sl⟩:=o
 cases dt<;>rfl
section
variable {P:Program}{w:World}{M:Model}{A:Around}{E:Value->Shared->Prop}{base:Heap}{env:PySem.Env}{outer:List PySem.Env}{L a C:Addr}{dx:Option Addr}{New:Addr->Prop}{H:Hp}{s:Shared}{Q:Unit->Shared->Prop}
theorem vY {oe:Obj}{vs:Array Value}{head:Value}{had:Bool}(hfr:A.frames=some (env::outer))(hl:s.heap.FunFrames base (env::outer))(hf:env.frame=some L)
 (he:s.heap.get? a=some oe) (hd:oe.data=.fields vs) (hsz:1<vs.size)
 (h:∀h' T oT ts,(∀b o,b∉gr (env::outer)->b≠a->s.heap.get? b=some o->h'.get? b=some o)->(∀b o,b≠a->s.heap.get? b=some o->∃sl,h'.get? b=some {o with slots:=sl})->s.heap.objs.size<=T->T≠a->
  h'.get? a=some (oe.mapFields (·.setIfInBounds 1 (.ref T)))->h'.get? T=some oT->oT.data=.fields ts->ts[3]?=some .none->Q () {s with heap:=h'}) :
 wpAny M A (do let f <- frameOf env;let pl <- entryPlaceOf L had;let b <- EntryCells.newEntry head f .none (rawInt L) .none pl;setField (.ref a) 1 b) (fun _ s'=>wpAny M A (setFlight (.ref a) none) Q E s') E s:=by
 have hene:a∉gr (env::outer):=fun hm=>by
  obtain ⟨_,o,ho,hnf⟩:=hl.mem hm
  rw [he] at ho;cases ho;exact hnf vs hd
 refine tqa (wpAny_frameOf_fun hfr hl hf fun h₁ hs₁=>?_)
 refine tqa (wpAny_entryPlaceOf fun pl hpl=>?_)
 unfold EntryCells.newEntry newFields
 refine tqa (wpAny_newObj_type ?_ (hpl.sizeOk5 _ _ _ _ _))
 have he₁:h₁.get? a=some oe:=(hs₁.2.1 a hene).trans he
 generalize ho:({cls:=.type "traceback",dict:=none,data:=.fields ([head,.ref L,.none,rawInt L,.none]++(if pl.isEmpty then List.replicate 6 Value.none else pl)).toArray}:Obj)=o
 have hod:o.data=.fields ([head,.ref L,.none,rawInt L,.none]++(if pl.isEmpty then List.replicate 6 Value.none else pl)).toArray:=by rw [<- ho]
 have he₂:=tqc (h:=h₁) o he₁
 refine wpAny_setField he₂ hd hsz ?_
 have hTe:h₁.objs.size≠a:=Nat.ne_of_gt (tqd he₁)
 have hd₃:=Obj.data_mapFields hd (·.setIfInBounds 1 (Value.ref h₁.objs.size))
 have he₃:=tqm (Obj.mapFields (·.setIfInBounds 1 (Value.ref h₁.objs.size))) he₂ (Obj.isFreed_of_fields hd₃)
 have hT₃:=(tql (h₁.push o) (Obj.mapFields (·.setIfInBounds 1 (Value.ref h₁.objs.size))) (Ne.symm hTe)).trans (tqe h₁ (Obj.isFreed_of_fields hod))
 unfold setFlight
 refine tqa (tqf he₃ hd₃ (x:=.ref h₁.objs.size) (by simp [hsz]) ?_)
 rw [if_pos (show (Value.ref h₁.objs.size != Value.none)=true from by simp)]
 refine wpAny_setField hT₃ hod (by simp only [List.size_toArray,List.length_append,List.length_cons,List.length_nil]<;>omega) ?_
 have keep:∀b u,b≠a->h₁.get? b=some u->(((h₁.push o).update a (Obj.mapFields (·.setIfInBounds 1 (Value.ref h₁.objs.size)))).update h₁.objs.size (Obj.mapFields (·.setIfInBounds 3 ((none:Option Addr).elim Value.none fun f=>rawInt f)))).get? b=some u:=fun b u hbe hb=>by
  have hbT:h₁.objs.size≠b:=Nat.ne_of_gt (tqd hb)
  rw [tql _ _ hbT,tql _ _ (Ne.symm hbe)]
  exact tqc _ hb
 refine h _ h₁.objs.size _ _ (fun b u hb hbe q=>keep b u hbe ((hs₁.2.1 b hb).trans q)) (fun b u hbe q=>?_) (Nat.le_of_eq hs₁.1.symm) hTe ?_ (tqm _ hT₃ (Obj.isFreed_of_fields (Obj.data_mapFields hod _))) (Obj.data_mapFields hod _) ?_
 ·obtain ⟨sl,e⟩:=hs₁.2.2 b u q
  exact ⟨sl,keep b _ hbe e⟩
 ·rw [tql _ _ hTe];exact he₃
 ·first|(simp;done)|(rcases hpl with rfl|⟨_,_,_,_,_,_,_,rfl⟩<;>simp)
theorem wx (hfr:A.frames=some (env::outer))(hl:s.heap.FunFrames base (env::outer))(hf:env.frame=some L)(hF:n8 New C dx a s.heap H)(hN:∀b,s.heap.objs.size<=b->New b)(hok:fb P w H s.heap)(hfree:∀b∈gr (env::outer),H b=none)
 (h:∀h' ch,(∀b∈ch,New b/\H b=none/\∃o vs,s.heap.get? b=some o/\o.data=.fields vs)->Un (gr (env::outer)) ch H H s.heap h'->fb P w H h'->n8 New C dx a h' H->Q () {s with heap:=h'}) :
 wpAny M A (noteFrame (.ref a) env) (fun _ s1=>wpAny M A (setFlight (.ref a) none) Q E s1) E s:=by
 obtain ⟨na,ha,oe,vs,he,hc,hdx,hd,tr⟩:=hF
 have fin:∀h' ch,(∀b∈ch,New b/\H b=none/\∃o vs,s.heap.get? b=some o/\o.data=.fields vs)->(∀b o,b∉gr (env::outer)->b∉ch->s.heap.get? b=some o->h'.get? b=some o)->(∀b o,b∉ch->s.heap.get? b=some o->∃sl,h'.get? b=some {o with slots:=sl})->n8 New C dx a h' H->Q () {s with heap:=h'}:=fun h' ch hch keep slot fl=>by
  refine h h' ch hch ⟨fun b o q _ hb hx=>keep b o hb hx q,fun b o q _ _ hx=>slot b o hx q,fun _ _ _ n _=>n,fun b o q hx=>let ⟨sl,e⟩:=slot b o hx q;⟨_,e⟩,fun _ _ e=>e,fun _ _ _ e=>e,fun b ps e=>⟨#[],by rw [e];simp⟩⟩ (fun b u e=>(hok b u e).stay (fun c v hc q=>?_) (fun _ q=>q) fun _ _ q=>q) fl
  have nn:H c≠none:=by rcases hc with z|z<;>(intro z';first|(rw [z,e] at z';cases z')|(rw [z] at z';cases z'))
  exact keep c v (fun z=>nn (hfree c z)) (fun z=>nn (hch c z).2.1) q
 unfold noteFrame
 simp only [hf]
 rcases tr with h1|⟨T,oT,ts,h1,hTa,nT,hT0,hT,hdT,h3⟩
 ·refine tqa (tqf he hd h1 ?_)
  rw [if_neg (by decide)]
  refine vY hfr hl hf he hd (Array.getElem?_eq_some_iff.mp h1).1 fun h' T oT ts k1 k2 k3 k4 k5 k6 k7 k8=>?_
  refine fin h' [a] (fun b hb=>?_) (fun b o hb hx q=>k1 b o hb (fun z=>hx (by simp [z])) q) (fun b o hx q=>k2 b o (fun z=>hx (by simp [z])) q) ⟨na,ha,_,_,k5,?_,?_,Obj.data_mapFields hd _,.inr ⟨T,oT,ts,by simp [(Array.getElem?_eq_some_iff.mp h1).1],k4,hN _ k3,hok.fresh k3,k6,k7,k8⟩⟩
  ·rcases List.mem_singleton.mp hb with rfl
   exact ⟨na,ha,oe,vs,he,hd⟩
  ·rw [Obj.cls_mapFields];exact hc
  ·rw [nR];exact hdx
 ·refine tqa (tqf he hd h1 ?_)
  rw [if_pos (show (Value.ref T != Value.none)=true from by simp)]
  refine tqa (tqf hT hdT h3 ?_)
  rw [if_neg (show ¬ ((Value.none==rawInt L)=true) from by simp [rawInt])]
  refine tqa (wpAny_setField hT hdT (Array.getElem?_eq_some_iff.mp h3).1 ?_)
  have other:∀b,b≠T->(s.heap.update T (Obj.mapFields (·.setIfInBounds 3 Value.none))).get? b=s.heap.get? b:=fun b hb=>tql _ _ (Ne.symm hb)
  have noRec:∀b o,s.heap.get? b=some o->(∀vs,o.data≠.fields vs)->b≠T:=fun b o hb hnf q=>by
   rw [q,hT] at hb;cases hb;exact hnf ts hdT
  have hz:(s.heap.update T (Obj.mapFields (·.setIfInBounds 3 Value.none))).objs.size=s.heap.objs.size:=Heap.size_after_update ..
  refine vY (s:={s with heap:=s.heap.update T (Obj.mapFields (·.setIfInBounds 3 Value.none))}) hfr (hl.of_keeps fun b o hb hnf=>⟨o,(other b (noRec b o hb hnf)).trans hb,rfl⟩) hf ((other a (Ne.symm hTa)).trans he) hd (Array.getElem?_eq_some_iff.mp h1).1 fun h' T' oT' ts' k1 k2 k3 k4 k5 k6 k7 k8=>?_
  have k3:s.heap.objs.size<=T':=by rw [<- hz];exact k3
  refine fin h' [a,T] (fun b hb=>?_) (fun b o hb hx q=>k1 b o hb (fun z=>hx (by simp [z])) ((other b (fun z=>hx (by simp [z]))).trans q)) (fun b o hx q=>k2 b o (fun z=>hx (by simp [z])) ((other b (fun z=>hx (by simp [z]))).trans q)) ⟨na,ha,_,_,k5,?_,?_,Obj.data_mapFields hd _,.inr ⟨T',oT',ts',by simp [(Array.getElem?_eq_some_iff.mp h1).1],k4,hN _ k3,hok.fresh k3,k6,k7,k8⟩⟩
  ·rcases List.mem_cons.mp hb with rfl|hb
   ·exact ⟨na,ha,oe,vs,he,hd⟩
   ·rcases List.mem_singleton.mp hb with rfl
    exact ⟨nT,hT0,oT,ts,hT,hdT⟩
  ·rw [Obj.cls_mapFields];exact hc
  ·rw [nR];exact hdx
end
def iu (P:Program)(w:World):oZ:=fun outer H s E e s'=>∃a C dx H',e=.ref a/\s'.os=s.os/\AllBare s'.gens/\Un (gr outer) [] H H' s.heap s'.heap/\fb P w H' s'.heap/\n8 (fun b=>s.heap.get? b=none) C dx a s'.heap H'/\E (.ref C) dx H'
theorem n8.imp {New New':Addr->Prop}{C a:Addr}{dx:Option Addr}{h:Heap}{H:Hp}(f:n8 New C dx a h H)(i:∀b,New b->New' b):n8 New' C dx a h H:=by
 obtain ⟨na,ha,o,vs,h1,h2,h3,h4,tr⟩:=f
 refine ⟨i _ na,ha,o,vs,h1,h2,h3,h4,?_⟩
 rcases tr with t|⟨T,oT,ts,t1,t2,t3,t4⟩
 ·exact .inl t
 ·exact .inr ⟨T,oT,ts,t1,t2,i _ t3,t4⟩
section
variable {P:Program}{w:World}{K:PySem.W.Frag}{mg:Str->Option Value}{base:Heap}{N:List Str}{qual:Str}{scope:Scope}{f:Addr}{cd:Value}{A:Around}{outer:List PySem.Env}{s:Shared}{H:Hp}{E:XK}
theorem BQ {pins:List (Addr×Obj)}{σ:L2.St}{H':Hp}{s':Shared}{a C:Addr}{dx:Option Addr}(I:Inv (fX (iu P w) P w K mg base N qual scope f cd A outer s H E) pins σ H' s')(hF:n8 (n6 (fX (iu P w) P w K mg base N qual scope f cd A outer s H E)) C dx a s'.heap H')(hE:E (.ref C) dx H') :
 (fX (iu P w) P w K mg base N qual scope f cd A outer s H E).xe (.ref a) s':=by
 have hst:=I.stack
 have hsz:s.heap.objs.size<=s'.heap.objs.size:=I.sz
 have hL:∀b o,s.heap.get? b=some o->b∈gr (envOfC qual scope s.heap.objs.size f cd::outer)->b∈gr outer:=fun b o q hb=>by
  rcases List.mem_cons.mp (show b∈s.heap.objs.size::gr outer from hb) with e|e
  ·exact absurd (tqd q) (by rw [e];exact tqn _)
  ·exact e
 unfold fX
 dsimp only
 unfold leaving
 refine tqa (wx (P:=P) (w:=w) (New:=fun b=>s.heap.get? b=none) I.ok.frames hst rfl (hF.imp fun b z=>z.1) (fun b z=>Heap.get?_none_of_le (tqh hsz z)) I.hok I.stkFree fun h' ch hch u hok fl=>?_)
 have nch:∀b o,s.heap.get? b=some o->b∉ch:=fun b o q z=>by have:=(hch b z).1;rw [q] at this;cases this
 have hb0:Un (gr outer) [] H H' s.heap s'.heap:=I.base
 refine ⟨a,C,dx,H',rfl,I.os,I.bare,⟨fun b o q n hb hx=>?_,fun b o q n hb hx=>?_,hb0.free,fun b o q hx=>?_,hb0.tups,hb0.frzs,hb0.tbls⟩,hok,fl,hE⟩
 ·exact u.keep b o (hb0.keep b o q n hb hx) (hb0.free b o q n hx) (fun z=>hb (hL b o q z)) (nch b o q)
 ·obtain ⟨sl,e⟩:=hb0.slot b o q n hb hx
  obtain ⟨sl',e'⟩:=u.any e (hb0.free b o q n hx) (nch b o q)
  exact ⟨sl',e'⟩
 ·obtain ⟨o',e⟩:=hb0.there b o q hx
  exact u.there b o' e (nch b o q)
end
section
variable {X:Cx}{pins:List (Addr×Obj)}{σ:L2.St}{H H':Hp}{s s':Shared}{E:XK}{e:Value}
theorem zT (I:Inv X pins σ H s)(hx:X.ex=[])(h:iu X.prog X.w X.stack H s E e s'):∃a C dx H',e=.ref a/\Inv X pins σ H' s'/\n8 (n6 X) C dx a s'.heap H'/\E (.ref C) dx H':=by
 obtain ⟨a,C,dx,H',rfl,os,bare,un,hok,fl,q⟩:=h
 refine ⟨a,C,dx,H',rfl,I.call' os un hok bare (fun b z=>absurd z (by simp)),fl.imp fun b z=>⟨?_,fun p hp e=>?_⟩,q⟩
 ·cases e:X.s₀.heap.get? b with
  |none=>rfl
  | some o =>
    obtain ⟨o',e'⟩:=I.base.there b o e (by rw [hx];simp)
    rw [z] at e';cases e'
 ·have:=(I.pin p (List.mem_append_left _ hp)).1
  rw [e,z] at this;cases this
theorem BY {h':Heap}{ch:List Addr}(I:Inv X pins σ H s)(hch:∀b∈ch,X.s₀.heap.get? b=none/\(∃o vs,s.heap.get? b=some o/\o.data=.fields vs)/\∀p∈X.pn++pins,p.1≠b)(u:Un (gr X.stack) ch H H s.heap h')(hok:fb X.prog X.w H h'):Inv X pins σ H {s with heap:=h'}:=by
 obtain ⟨m,⟨o,es,ep,ho,hd,r⟩,hl⟩:=id I.loc
 have neL:X.env.locals∉ch:=fun z=>by
  obtain ⟨o',vs,e,d⟩:=(hch _ z).2.1
  rw [ho] at e;cases e;rw [hd] at d;cases d
 have neC:∀x c,X.env.cells.lookup x=some c->c∉ch:=fun x c e z=>by
  obtain ⟨o',vs,e',d⟩:=(hch _ z).2.1
  obtain ⟨v,o2,e2,d2⟩:=I.cell x c e
  rw [e2] at e';cases e';rw [d2] at d;cases d
 have n0:∀b o,X.s₀.heap.get? b=some o->b∉ch:=fun b o e z=>by rw [(hch b z).1] at e;cases e
 have nst:∀b o,X.s₀.heap.get? b=some o->b∉X.fs->b∉gr X.stack:=fun b o e n z=>(List.mem_cons.mp (I.stkSub b z)).elim (fun q=>absurd (tqd e) (by rw [q];exact Nat.not_lt.mpr I.ok.above)) n
 obtain ⟨sl,hL⟩:=u.any ho I.free neL
 have cellK:∀x c,X.env.cells.lookup x=some c->∀v,s.heap.IsCell c v->h'.IsCell c v:=fun x c e v ⟨o,ho,hd⟩=>by
  obtain ⟨sl,q⟩:=u.any ho (I.freeC x c e) (neC x c e)
  exact ⟨_,q,hd⟩
 refine ⟨I.ok,I.os,I.bare,⟨fun b o e n hb hx=>?_,fun b o e n hb hx=>?_,I.base.free,fun b o e hx=>?_,I.base.tups,I.base.frzs,I.base.tbls⟩,⟨m,⟨_,es,ep,hL,hd,r⟩,fun i x v e1 e2 e3=>?_⟩,fun x c e=>?_,I.free,I.freeC,fun p hp=>?_,hok,I.len⟩
 ·exact u.keep b o (I.base.keep b o e n hb hx) (I.base.free b o e n hx) (nst b o e hb) (n0 b o e)
 ·obtain ⟨sl,e1⟩:=I.base.slot b o e n hb hx
  obtain ⟨sl',e2⟩:=u.any e1 (I.base.free b o e n hx) (n0 b o e)
  exact ⟨sl',e2⟩
 ·obtain ⟨o',e1⟩:=I.base.there b o e hx
  exact u.there b o' e1 (n0 b o e)
 ·obtain ⟨u',r',l⟩:=hl i x v e1 e2 e3
  refine ⟨u',r',?_⟩
  rcases l with l|⟨k,c,e,z⟩
  ·exact .inl l
  ·exact .inr ⟨k,c,e,cellK x c e _ z⟩
 ·obtain ⟨v,z⟩:=I.cell x c e
  exact ⟨v,cellK x c e v z⟩
 ·obtain ⟨e,n,ne,nf,d⟩:=I.pin p hp
  exact ⟨u.keep p.1 p.2 e n (fun z=>(List.mem_cons.mp (I.stkSub _ z)).elim ne nf) fun z=>(hch _ z).2.2 p hp rfl,n,ne,nf,d⟩
theorem sQ {a:Addr}{o:HO}(I:Inv X pins σ H s)(hx:X.ex=[])(hn:H a=none)(h0:X.s₀.heap.get? a=none)(hf:∃ob vs,s.heap.get? a=some ob/\ob.data=.fields vs)(hp:∀p∈X.pn++pins,p.1≠a)(new:di X.prog X.w (upd H a o) s.heap a o):Inv X pins σ (upd H a o) s:=by
 obtain ⟨ob,vs,hob,hd⟩:=hf
 have ne:∀b u,H b=some u->b≠a:=fun b u e=>br e hn
 refine ⟨I.ok,I.os,I.bare,⟨I.base.keep,I.base.slot,fun b o e n hx=>?_,I.base.there,fun b xs e=>?_,fun b o u e=>?_,fun b ps e=>?_⟩,I.loc,I.cell,?_,fun x c e=>?_,fun p hp'=>?_,fun b u e=>?_,I.len⟩
 ·rw [aP (fun z=>by rw [z,h0] at e;cases e)];exact I.base.free b o e n hx
 ·have q:=I.base.tups b xs e
  rw [aP (ne b _ q)];exact q
 ·have q:=I.base.frzs b o u e
  rw [aP (ne b _ q)];exact q
 ·obtain ⟨m,q⟩:=I.base.tbls b ps e
  exact ⟨m,by rw [aP (ne b _ q)];exact q⟩
 ·obtain ⟨m,⟨oL,es,ep,ho,hdL,_⟩,_⟩:=id I.loc
  rw [aP (fun z=>by rw [z,hob] at ho;cases ho;rw [hd] at hdL;cases hdL)];exact I.free
 ·obtain ⟨v,o2,e2,d2⟩:=I.cell x c e
  rw [aP (fun z=>by rw [z,hob] at e2;cases e2;rw [hd] at d2;cases d2)];exact I.freeC x c e
 ·obtain ⟨e,n,r⟩:=I.pin p hp'
  exact ⟨e,by rw [aP (hp p hp')];exact n,r⟩
 ·by_cases hb:b=a
  ·subst hb
   rw [cb] at e;cases e
   exact new
  ·rw [aP hb] at e
   exact (I.hok b u e).stay (fun c v _ q=>q) (fun c q=>by rw [aP (ne c _ q)];exact q) fun c xs q=>by rw [aP (ne c _ q)];exact q
end
def kQ {α:Type}(r:Res α)(k:α->Mem->Prop)(kx:D->Mem->Prop):Prop:=match r with
 |.ok a M=>k a M
 |.err x M=>kx x M
 |.bad=>False
theorem Gz {α:Type}{r:Res α}{k:α->Mem->Prop}{kx:D->Mem->Prop}(h:aj r k):kQ r k kx:=by
 cases r with
 |ok a M=>exact h
 |err=>exact h.elim
 |bad=>exact h
def yu (fa:Fa)(K:PySem.W.Frag)(μ:Mu)(H:Hp)(E:XK)(x:D)(M':Mem):Prop:=∀C dx c p H' μ',Ext μ H μ' H'->RelM fa K μ' H' M'->x=.exc c p->fa (du c)=some C->yt H' c dx p->E (.ref C) dx H'
theorem CG {P:Program}{w:World}{X:Cx}:Passes (iu P w) X E0:=fun _ _ _ _ _ _ _ h=>let ⟨_,_,_,_,_,_,_,_,_,_,z⟩:=h;z.elim
end LD
namespace LD
open PySem PySem.Spec PyProof.Rows L2
def Fn (fa:Fa)(K:PySem.W.Frag)(k:Nat)(call:List D->Mem->Res D):Sp:=fun vs H Q E=>vs.length=k/\∃μ M ds,RelM fa K μ H M/\aX fa K μ H ds vs/\kQ (call ds M) (bH fa K μ H Q) (yu fa K μ H E)
def g9 (fa:Fa)(P:Program)(w:World)(K:PySem.W.Frag)(mg:Str->Option Value)(base:Heap)(n:Nat)(f:Nat)(call:List D->Mem->Res D):Prop:=
 (∀ds M,call ds M=.bad)\/∃(ad:Addr) (fd:FuncData) (ps:List Str),fa f=some ad/\PySem.W.keepIn K (.ref ad)=true/\Binds K fd ps []/\(∀ds M,ds.length≠ps.length->call ds M=.bad)/\lR P w K mg base (iu P w) (n+4) ad fd ps (Fn fa K ps.length call)
section
variable {fa:Fa}{X:Cx}{a b d:Expr}{ga gb gd:Env->Mem->Res D}{pos p:Pos}{es:List Expr}{gs:Env->Mem->Res (List D)}{n:Nat}
theorem As {call:List D->Mem->Res D}{P:D->Mem->Prop}{r:Res (List D)}(hb:∀ds M,call ds M=.bad)(h:aj (r.bind fun ds M=>call ds M) P):False:=by
 obtain ⟨ds,M,_,q⟩:=a9 h
 rw [hb] at q
 exact q
theorem sW {call:List D->Mem->Res D}{k:Nat}{σ:L2.St}{H:Hp}{Q:VK}{μ:Mu}{Z:Env}{M:Mem}(hE:bK fa X.K μ H σ Z)(hM:RelM fa X.K μ H M)(h:aj ((gs Z M).bind fun ds M=>call ds M) (bH fa X.K μ H Q))
 (hk:∀ds M1,ds.length≠k->call ds M1=.bad):Cy (Fn fa X.K k call) [] E0 (tA fa X.K gs) σ H Q:=by
 refine ur hE hM h fun ds M1 vs H1 μ1 x1 hE1 hM1 r1 h1=>?_
 rw [List.append_nil]
 refine ⟨?_,μ1,M1,ds,hM1,r1,Gz (lV h1 x1)⟩
 rw [r1.length]
 by_cases hl:ds.length=k
 ·exact hl
 ·rw [hk ds M1 hl] at h1;exact h1.elim
theorem Ip {f:Nat}{x:Str}{call:List D->Mem->Res D}(C:g9 fa X.prog X.w X.K X.mg X.base n f call)(hr:cy (n+4) X.A)(hg:Gl X x)(hm:∀ad,fa f=some ad->X.mg x=some (.ref ad))(hs:DA fa X (a::es) gs)
 (hdb:(x==("__debug__":Str))=false) (he:starEach (a::es) X.env=(false,eval a X.env)::starEach es X.env) (hpl:(backTo pos (starEach es X.env)).any (·.1)=false) :
 DE fa X (.Call (.Name x p) (a::es) [] pos) (fun Z M=>(gs Z M).bind fun ds M=>call ds M):=by
 rcases C with hb|⟨ad,fd,ps,h1,h2,h3,h4,F⟩
 ·exact fun pins s σ H Q I ⟨μ,Z,M,hE,hM,h⟩=>(As hb h).elim
 ·exact cn (D4 F hr hg (hm ad h1) h2 h3 .nil CG hs hdb he hpl) fun σ H Q ⟨μ,Z,M,hE,hM,h⟩=>sW hE hM h h4
theorem EV {i:Nat}{x:Str}{call:Nat->List D->Mem->Res D}(C:∀f,g9 fa X.prog X.w X.K X.mg X.base n f (call f))(hr:cy (n+4) X.A)(hN:X.N[i]?=some x)(hv:tu X.env.scope x)(hs:DA fa X (a::es) gs)
 (hd:(x==("__debug__":Str))=false) (hcd:(x==("__classdict__":Str))=false) (he:starEach (a::es) X.env=(false,eval a X.env)::starEach es X.env) (hpl:(backTo pos (starEach es X.env)).any (·.1)=false) :
 DE fa X (.Call (.Name x p) (a::es) [] pos) (fun Z M=>match Z[i]?.getD none with|some (.fn f)=>(gs Z M).bind fun ds M=>call f ds M|_=>.bad):=by
 intro pins s σ H Q I ⟨μ,Z,M,hE,hM,h⟩
 dsimp only at h
 cases e:Z[i]?.getD none with
 |none=>rw [e] at h;exact h.elim
 | some df =>
   cases df with
   | fn f =>
     rw [e] at h
     simp only at h
     have e':Z[i]?=some (some (.fn f)):=by
      cases q:Z[i]? with
      |none=>rw [q] at e;cases e
      |some o=>rw [q] at e;simp at e;rw [e]
     obtain ⟨v,hv1,hv2⟩:=hE.at' i _ e'
     obtain ⟨ad,rfl,had⟩:=hv2
     rcases C f with hb|⟨ad',fd,ps,h1,h2,h3,h4,F⟩
     ·exact (As hb h).elim
     ·rw [had] at h1;cases h1
      refine wpAny_Call_Name_kw (bp (qh hN hv hd hcd pins s σ H (fun v H'=>v=.ref ad/\H'=H) I ⟨_,hv1,rfl,rfl⟩) fun u s1 ⟨v,H1,I1,r1,e1,e2⟩=>?_)
      subst e1 e2
      obtain rfl:u=Value.ref ad:=r1
      refine PySem.W.callWith_K (h₀:=X.base) I1.ok.mod.kin h2 (bp (hs pos pins s1 σ H1 _ I1 (sW hE hM h h4)) fun us s2 ⟨vs,H2,I2,r,q⟩=>⟨I2.kIn,?_⟩) he hpl
      exact zf F hr h3 .nil CG I2 r q
   |_=>rw [e] at h;exact h.elim
theorem C4 (f:vG){x:Str}{id:String}(hc:dj X (.builtin id) (qZ fa X.K f))(hg:Gl X x)(hm:X.mg x=none)(hv:bootBuiltins x=some (.builtin id))(hs:DA fa X (a::es) gs)(hn:x≠"__name__")(hdb:(x==("__debug__":Str))=false)
 (he:starEach (a::es) X.env=(false,eval a X.env)::starEach es X.env) (hpl:(backTo pos (starEach es X.env)).any (·.1)=false):DE fa X (.Call (.Name x p) (a::es) [] pos) (fun Z M=>(gs Z M).bind fun ds M=>gv f ds M):=
 cn (jn hc hg hm hv hs hn hdb he hpl) fun σ H Q ⟨μ,Z,M,hE,hM,h⟩=>ur hE hM h fun ds M1 vs H1 μ1 x1 hE1 hM1 r1 h1=>⟨μ1,M1,ds,hM1,r1,lV h1 x1⟩
theorem Ah (f:vG){x:Str}{T:String}(hc:dj X (.type T) (qZ fa X.K f))(hg:Gl X x)(hm:X.mg x=none)(hv:bootBuiltins x=some (.type T))(hs:DA fa X (a::es) gs)(hn:x≠"__name__")(hdb:(x==("__debug__":Str))=false)
 (he:starEach (a::es) X.env=(false,eval a X.env)::starEach es X.env) (hpl:(backTo pos (starEach es X.env)).any (·.1)=false):DE fa X (.Call (.Name x p) (a::es) [] pos) (fun Z M=>(gs Z M).bind fun ds M=>gv f ds M):=
 cn (zo hc hg hm hv hs hn hdb he hpl) fun σ H Q ⟨μ,Z,M,hE,hM,h⟩=>ur hE hM h fun ds M1 vs H1 μ1 x1 hE1 hM1 r1 h1=>⟨μ1,M1,ds,hM1,r1,lV h1 x1⟩
theorem Io (t:Ty)(ht:∀c,t≠.own c){x:Str}{p1 p2:Pos}(ha:DE fa X a ga)(hg:Gl X "isinstance")(hm:X.mg "isinstance"=none)(hv:bootBuiltins "isinstance"=some (.builtin "isinstance"))(hgt:Gl X x)(hmt:X.mg x=none)(hvt:bootBuiltins x=some (.type (tyName t)))
 (hn:x≠"__name__") (hdb:(x==("__debug__":Str))=false)
 (he:starEach [a,.Name x p1] X.env=(false,eval a X.env)::starEach [.Name x p1] X.env):DE fa X (.Call (.Name "isinstance" p2) [a,.Name x p1] [] pos) (fun Z M=>(ga Z M).bind fun x M=>(cZ M (bX t x)).bind fun b M=>.ok (.bl b) M):=
 cn (jn (HU (fa:=fa) t ht) hg hm hv (cp ha (cp (wq hgt hmt hvt (v:=.ty (tyName t)) rfl hn hdb) eh (by rfl)) he) (by decide) (by decide) he (by rfl)) fun σ H Q ⟨μ,Z,M,hE,hM,h⟩=>t1 hE hM h fun x M1 v H1 μ1 x1 hE1 hM1 r1 h1=>by
  obtain ⟨b,e,q⟩:=qp h1
  exact ⟨μ1,M1,x,v,b,rfl,hM1,r1,e,bE (v:=.bl b) hM1 (q.ext x1) rfl⟩
def gT (fa:Fa)(K:PySem.W.Frag)(t:dv):TG:=fun v σ H Q=>∃μ Z M d ρ1,bK fa K μ H σ Z/\RelM fa K μ H M/\Rep fa K μ H d v/\cX t d Z=some ρ1/\∀σ1,bK fa K μ H σ1 ρ1->Q σ1 H
theorem zk {tg:Expr}{g g':TG}(h:PG X tg g)(i:∀v σ H Q,g' v σ H Q->g v σ H Q):PG X tg g':=fun pins s σ H v u Q I r q=>h pins s σ H v u Q I r (i v σ H Q q)
theorem wm {tg:List Expr}{g g':qN}(h:vF X tg g)(i:∀v σ H Q,g' v σ H Q->g v σ H Q):vF X tg g':=fun pins s σ H v u Q I r q=>h pins s σ H v u Q I r (i v σ H Q q)
theorem EO {i:Nat}{x:Str}(hN:X.N.Nodup)(hi:X.N[i]?=some x)(hx:Loc X.env.scope x)(hf:X.fn x=true\/X.env.scope.names.lookup x=some .local):PG X (.Name x pos) (gT fa X.K (.one i)):=
 zk (wo hN hi hx hf) fun v σ H Q ⟨μ,Z,M,d,ρ1,hE,hM,r,e,k⟩=>by
  have e':Z.set i (some d)=ρ1:=Option.some.inj e
  subst e'
  exact k _ (hE.set r)
def HP (fa:Fa)(K:PySem.W.Frag)(l:List Nat):qN:=fun vs σ H Q=>∃μ Z M ds ρ1,bK fa K μ H σ Z/\RelM fa K μ H M/\aX fa K μ H ds vs/\gm l ds Z=some ρ1/\∀σ1,bK fa K μ H σ1 ρ1->Q σ1 H
inductive lH (X:Cx):List Nat->List Expr->Prop
 |nil:lH X [] []
 |cons {i:Nat}{x:Str}{p:Pos}{l:List Nat}{ns:List Expr} (hi:X.N[i]?=some x) (hx:Loc X.env.scope x) (hf:X.fn x=true\/X.env.scope.names.lookup x=some .local) (r:lH X l ns):lH X (i::l) (.Name x p::ns)
theorem lH.each {l:List Nat}{ns:List Expr}(h:lH X l ns):(assignEach ns X.env).length=l.length/\(assignEach ns X.env).findIdx? (·.1)=none:=by
 induction h with
 |nil=>exact ⟨rfl,rfl⟩
 | cons hi hx hf r ih =>
   rename_i i x p l ns
   have e:assignEach (.Name x p::ns) X.env=(false,assign (.Name x p) X.env)::assignEach ns X.env:=rfl
   rw [e]
   refine ⟨by simp [ih.1],?_⟩
   rw [List.findIdx?_cons]
   simp [ih.2]
theorem Cc (hN:X.N.Nodup){l:List Nat}{ns:List Expr}(h:lH X l ns):vF X ns (HP fa X.K l):=by
 induction h with
 | nil =>
   refine wm D2 fun vs σ H Q ⟨μ,Z,M,ds,ρ1,hE,hM,r,e,k⟩=>?_
   cases ds with
   | nil =>
     obtain rfl:vs=[]:=r
     have e':Z=ρ1:=Option.some.inj e
     subst e'
     exact ⟨rfl,k _ hE⟩
   |cons=>cases e
 | cons hi hx hf r ih =>
   refine wm (Bk (wo hN hi hx hf) ih (by rfl)) fun vs σ H Q ⟨μ,Z,M,ds,ρ1,hE,hM,r,e,k⟩=>?_
   cases ds with
   |nil=>cases e
   | cons d ds =>
     obtain ⟨v,vr,rfl,r1,r2⟩:=r
     exact ⟨v,vr,rfl,μ,_,M,ds,ρ1,hE.set r1,hM,r2,e,k⟩
theorem mS:∀{l:List Nat}{ds:List D}{Z ρ1:Env},gm l ds Z=some ρ1->ds.length=l.length
 |[],[],_,_,_=>rfl
 |_::_,[],_,_,h=>by cases h
 |[],_::_,_,_,h=>by cases h
 | _ :: l, _ :: ds, _, _, h => by
   have:=mS (l:=l) (ds:=ds) h
   simp [this]
theorem Ik (hc:X.calm=true)(hN:X.N.Nodup){l:List Nat}{ns:List Expr}{k:Nat}(h:lH X l ns):PG X (.Tuple ns k pos) (gT fa X.K (.tup l)):=
 zk (Ga (n:=l.length) hc (Cc (fa:=fa) hN h) h.each.1 h.each.2) fun v σ H Q ⟨μ,Z,M,d,ρ1,hE,hM,r,e,k⟩=>by
  cases d with
  | tup ds =>
    obtain ⟨a,vs,rfl,hq,r⟩:=r
    exact ⟨a,vs,rfl,hq,by rw [r.length];exact mS e,μ,Z,M,ds,ρ1,hE,hM,r,e,k⟩
  |_=>cases e
end
end LD
namespace LD
open PySem PySem.Spec PyProof.Rows L2
section
variable {fa:Fa}{X:Cx}{a b d:Expr}{ga gb gd:Env->Mem->Res D}{pos p:Pos}{es:List Expr}{gs:Env->Mem->Res (List D)}{n:Nat}
theorem Ih {tg:Expr}{t:dv}(ha:DE fa X a ga)(hg:PG X tg (gT fa X.K t))(hs:swapsWithSole [tg] a pos.line X.env=pure false)(hw:swappedStores [tg] a X.env=pure none)(h1:(assignEach [tg] X.env).map (·.2)=[assign tg X.env]) :
 DS fa X (.Assign [tg] a pos) (fun Z M=>(ga Z M).bind fun x M=>(cZ M (cX t x Z)).bind fun ρ1 M=>.ok (.next ρ1) M):=
 iK (uQ ha hg hs hw h1) fun D σ H ⟨μ,Z,M,hE,hM,h⟩=>t1 hE hM h fun x M1 v H1 μ1 x1 hE1 hM1 r1 h1=>by
  obtain ⟨ρ1,M2,e,q⟩:=a9 h1
  cases eb:cX t x Z with
  |none=>rw [eb] at e;cases e
  | some ρ2 =>
    rw [eb] at e
    cases e
    exact ⟨μ1,Z,M1,x,ρ1,hE1,hM1,r1,eb,fun σ1 hE2=>q σ1 H1 μ1 x1 hE2 hM1⟩
theorem sk {D':Ends}{μ:Mu}{H:Hp}{σ:L2.St}{Z:Env}{M:Mem}{k:Nat}{ad:Addr}{ws:List V}{ds:List D}(hE:bK fa X.K μ H σ Z)(hM:RelM fa X.K μ H M)(hk:μ.pub k=some ad)(r:aX fa X.K μ H ds ws)
 (q:∀σ' H' μ',Ext μ H μ' H'->bK fa X.K μ' H' σ' Z->RelM fa X.K μ' H' (M.set k ds)->D'.nx σ' H'):D'.nx σ (upd H ad (.lst ws)):=
 q σ _ μ (Ext.write (vs:=ws) hM hk) (hE.ext (Ext.write (vs:=ws) hM hk)) (hM.write hk r)
theorem Ic (ha:DE fa X a ga)(hb:DE fa X b gb)(hd:DE fa X d gd){p2:Pos}
 (h0:∀v,assign (.Subscript a b p2) X.env v=(do
  let ov <- holding [v] (eval a X.env)
  let iv <- holding [v,ov] (eval b X.env)
  standAt p2
  holding [v,ov,iv] (setItem ov iv v)
  release [v,ov,iv] [])) (hs:swapsWithSole [.Subscript a b p2] d pos.line X.env=pure false) (hw:swappedStores [.Subscript a b p2] d X.env=pure none) (h1:(assignEach [.Subscript a b p2] X.env).map (·.2)=[assign (.Subscript a b p2) X.env]) :
 DS fa X (.Assign [.Subscript a b p2] d pos) (fun Z M=>(gd Z M).bind fun z M=>(ga Z M).bind fun x M=>(gb Z M).bind fun y M=>match x,y with
  | .cell k, .int n => match M[k]? with
    | some ds => match bV ds.length n with
      |some j=>.ok (.next Z) (M.set k (ds.set j z))
      |none=>.bad
    |none=>.bad
  |_,_=>.bad):=
 iK (uQ hd (Gb ha hb set_list h0) hs hw h1) fun D' σ H ⟨μ,Z,M,hE,hM,h⟩=>t1 hE hM h fun z M1 v H1 μ1 x1 hE1 hM1 r1 h1=>t2 hE1 hM1 h1 fun x y M2 vx vy H2 μ2 x2 hE2 hM2 rx ry h2=>by
  have key:∀k n,x=.cell k->y=.int n->CC vx vy v H2 fun H3=>D'.nx σ H3:=fun k n e1 e2=>by
   subst e1 e2
   dsimp only at h2
   cases e:M2[k]? with
   |none=>rw [e] at h2;exact h2.elim
   | some ds =>
     rw [e] at h2
     dsimp only at h2
     cases ej:LD.bV ds.length n with
     |none=>rw [ej] at h2;exact h2.elim
     | some j =>
       rw [ej] at h2
       obtain ⟨ad,rfl,hk⟩:=rx
       obtain ⟨ad',ws,h3,h4,h5⟩:=hM2.at' k ds e
       rw [hk] at h3;cases h3
       have q:∀σ' H' μ',Ext μ H μ' H'->bK fa X.K μ' H' σ' Z->RelM fa X.K μ' H' (M2.set k (ds.set j z))->D'.nx σ' H':=h2
       refine ⟨ad,ws,n,j,rfl,ry,h4,by rw [h5.length];exact ej,sk hE2 hM2 hk (h5.set j (r1.ext x2)) fun σ' H' μ' x' e' m'=>q σ' H' μ' ((x1.trans x2).trans x') e' m'⟩
  cases x with
  | cell k => cases y with
    |int n=>exact key k n rfl rfl
    |_=>exact h2.elim
  |_=>exact h2.elim
theorem Ii (ha:DE fa X a ga)(hd:DE fa X d gd){apos cpos:Pos}(hbase:attributeBase a "append" X.env (eval a X.env)=eval a X.env)(hline:(apos.endLine==cpos.line)=true)(hs:starEach [d] X.env=[(false,eval d X.env)])
 (hsw:swapsWith (.Call (.Attribute a "append" apos) [d] [] cpos) none pos.line X.env=pure false) :
 DS fa X (.Expr (.Call (.Attribute a "append" apos) [d] [] cpos) pos) (fun Z M=>(ga Z M).bind fun x M=>(gd Z M).bind fun z M=>match x with
  | .cell k => match M[k]? with
    |some ds=>if ds.length<sz then .ok (.next Z) (M.set k (ds++[z])) else .bad
    |none=>.bad
  |_=>.bad):=
 iK (rf (xi PySem.F.plainAttrs_list PySem.F.slot_list_append PySem.F.type_list_append sN ha (cp hd eh hs) hbase (by rw [hs];rfl) hline hs (by rfl)) hsw) fun D' σ H ⟨μ,Z,M,hE,hM,h⟩=>by
  obtain ⟨x,M1,e1,h1⟩:=a9 h
  obtain ⟨z,M2,e2,h2⟩:=a9 h1
  cases x with
  | cell k =>
    dsimp only at h2
    cases e:M2[k]? with
    |none=>rw [e] at h2;exact h2.elim
    | some ds =>
      rw [e] at h2
      dsimp only at h2
      split at h2
      ·next hz=>
       have q:∀σ' H' μ',Ext μ H μ' H'->bK fa X.K μ' H' σ' Z->RelM fa X.K μ' H' (M2.set k (ds++[z]))->D'.nx σ' H':=h2
       refine ⟨μ,Z,M,hE,hM,?_⟩
       rw [e1]
       intro vx H1 μ1 x1 hM1 rx
       obtain ⟨ad,rfl,hk⟩:=rx
       obtain ⟨ds1,ws1,_,hH1,_⟩:=hM1.mu_lt hk
       refine ⟨.inl ⟨rfl,ws1,dg.of hH1⟩,μ1,Z,M1,hE.ext x1,hM1,?_⟩
       rw [e2]
       intro vz H2 μ2 x2 hM2 rz
       obtain ⟨ad',ws,h3,h4,h5⟩:=hM2.at' k ds e
       rw [x2.mu k ad hk] at h3;cases h3
       refine ⟨ad,ws,vz,rfl,rfl,h4,by rw [h5.length,<- dQ];exact hz,?_⟩
       exact sk ((hE.ext x1).ext x2) hM2 (x2.mu k ad hk) (h5.append (.one rz)) fun σ' H' μ' x' e' m'=>q σ' H' μ' ((x1.trans x2).trans x') e' m'
      ·exact h2.elim
  |_=>exact h2.elim
theorem Ib (ha:DE fa X a ga):DS fa X (.Return (some a) pos) (fun Z M=>(ga Z M).bind fun x M=>.ok (.ret x) M):=
 iK (FW ha) fun D' σ H ⟨μ,Z,M,hE,hM,h⟩=>by
  obtain ⟨x,M1,e,q⟩:=a9 h
  refine ⟨μ,Z,M,hE,hM,?_⟩
  rw [e];exact q
theorem Mr:DS fa X (.Pass pos) (fun Z M=>.ok (.next Z) M):=iK DU fun D' σ H ⟨μ,Z,M,hE,hM,h⟩=>h σ H μ .refl hE hM
theorem oY.ext {μ μ':Mu}{H H':Hp}{D':Ends}(x:Ext μ H μ' H'){fl:Fl}{M:Mem}(q:oY fa X μ H D' fl M):oY fa X μ' H' D' fl M:=by
 cases fl with
 |next ρ'=>exact fun σ' H'' μ'' y e m=>q σ' H'' μ'' (x.trans y) e m
 |ret d=>exact bH.ext q x
 |exc x' ρ'=>exact XW.ext q x
theorem GC {r:Res Fl}{μ μ':Mu}{H H':Hp}{D':Ends}(x:Ext μ H μ' H')(h:aj r (oY fa X μ H D')):aj r (oY fa X μ' H' D'):=bo h fun fl M q=>q.ext x
theorem Ie {c:Expr}{gc:Env->Mem->Res Bool}{st sf:List Stmt}{gt gf:Env->Mem->Res Fl}(hc:DT fa X c gc)(ht:g8 fa X st gt)(hf:g8 fa X sf gf):DS fa X (.If c st sf pos) (fun Z M=>(gc Z M).bind fun k M=>if k then gt Z M else gf Z M):=
 iK (Ji hc ht hf) fun D' σ H ⟨μ,Z,M,hE,hM,h⟩=>yQ hE hM h fun k M1 H1 μ1 x1 hE1 hM1 h1=>by
  cases k with
  |true=>exact ⟨μ1,Z,M1,hE1,hM1,GC x1 h1⟩
  |false=>exact ⟨μ1,Z,M1,hE1,hM1,GC x1 h1⟩
theorem EG:g8 fa X [] (fun Z M=>.ok (.next Z) M):=wj wg fun D' σ H ⟨μ,Z,M,hE,hM,h⟩=>h σ H μ .refl hE hM
theorem Ca {st:Stmt}{ss:List Stmt}{g:Env->Mem->Res Fl}{g':Env->Mem->Res Fl}(h1:DS fa X st g)(h2:g8 fa X ss g'):g8 fa X (st::ss) (fun Z M=>(g Z M).bind fun fl M=>match fl with
 |.next Z=>g' Z M
 |fl=>.ok fl M):=
 wj (pD h1 h2) fun D' σ H ⟨μ,Z,M,hE,hM,h⟩=>by
  obtain ⟨fl,M1,e,q⟩:=a9 h
  refine ⟨μ,Z,M,hE,hM,?_⟩
  rw [e]
  cases fl with
  |next ρ1=>exact fun σ1 H1 μ1 x1 hE1 hM1=>⟨μ1,ρ1,M1,hE1,hM1,GC x1 q⟩
  |ret d=>exact q
  |exc x ρ1=>exact q
end
end LD
namespace LD
open PySem PySem.Spec PyProof.Rows L2
def eD (fa:Fa)(K:PySem.W.Frag)(μ0:Mu)(H0:Hp)(w:Walk)(J:It):Prop:=
 ∀(μ:Mu) (H:Hp) (M:Mem) (ds:List D),ExtW μ0 H0 μ H->RelM fa K μ H M->w M=some ds->(∀(i:Nat) (d:D),ds[i]?=some d->J.go i H/\∀x H',J.yld i H x H'->Ext μ H μ H'/\RelM fa K μ H' M/\Rep fa K μ H' d x)/\∀i,ds.length<=i->J.stop i H
def tI (fa:Fa)(K:PySem.W.Frag)(g:Env->Mem->Res Walk):TI:=fun σ H R=>∃μ Z M,bK fa K μ H σ Z/\RelM fa K μ H M/\aj (g Z M) fun w M'=>∀J H' μ',Ext μ H μ' H'->RelM fa K μ' H' M'->eD fa K μ' H' w J->R J H'
abbrev DI (fa:Fa)(X:Cx)(tg iter:Expr)(g:Env->Mem->Res Walk):Prop:=PI X tg iter (tI fa X.K g)
theorem yH {fa:Fa}{K:PySem.W.Frag}{μ0 μ1:Mu}{H0 H1:Hp}{w:Walk}{J:It}(h:eD fa K μ0 H0 w J)(x:ExtW μ0 H0 μ1 H1):eD fa K μ1 H1 w J:=fun μ H M ds y hM e=>h μ H M ds (x.trans y) hM e
section
variable {fa:Fa}{X:Cx}{tg a b d:Expr}{ga gb gd:Env->Mem->Res D}{pos p:Pos}{es:List Expr}{n:Nat}
theorem yI {μ0:Mu}{H0:Hp}{dd:D}{ad:Addr}(h:Rep fa X.K μ0 H0 dd (.ref ad)):eD fa X.K μ0 H0 (fun M=>gi M dd) (IH X.K ad):=fun μ H M ds x hM e=>by
 obtain ⟨ad',vs,ea,s,r⟩:=cf hM (Rep.extW x h) e
 cases ea
 refine ⟨fun i d hd=>?_,fun i hi=>⟨vs,s,by rw [r.length];exact hi⟩⟩
 obtain ⟨v,hv,rv⟩:=r.get hd
 refine ⟨⟨vs,v,s,hv⟩,fun y H' ⟨e,hy⟩=>?_⟩
 subst e
 have:=hy vs s
 rw [hv] at this;cases this
 exact ⟨.refl,hM,rv⟩
theorem AJ {μ0:Mu}{H0:Hp}{ds:List D}{ad:Addr}(h:Rep fa X.K μ0 H0 (.tup ds) (.ref ad)):eD fa X.K μ0 H0 (fun _=>some ds) (IF X.K ad):=fun μ H M ds' x hM e'=>by
 cases e'
 obtain ⟨ad',vs,e,s,r⟩:=Rep.extW x h
 cases e
 refine ⟨fun i d hd=>?_,fun i hi=>⟨vs,s,by rw [r.length];exact hi⟩⟩
 obtain ⟨v,hv,rv⟩:=r.get hd
 refine ⟨⟨vs,v,s,hv⟩,fun y H' ⟨e,hy⟩=>?_⟩
 subst e
 have:=hy vs s
 rw [hv] at this;cases this
 exact ⟨.refl,hM,rv⟩
theorem AL {μ0:Mu}{H0:Hp}(lo:Int)(n:Nat):eD fa X.K μ0 H0 (fun _=>some ((List.range n).map fun (k:Nat)=>D.int (lo+(k:Int)))) (Dc lo n):=fun μ H M ds x hM e=>by
 cases e
 refine ⟨fun i d hd=>?_,fun i hi=>(show n<=i by simpa using hi)⟩
 rw [List.getElem?_map] at hd
 by_cases hi:i<n
 ·rw [List.getElem?_range hi] at hd
  have e:D.int (lo+(i:Int))=d:=Option.some.inj hd
  subst e
  refine ⟨hi,fun y H' ⟨e1,e2⟩=>?_⟩
  subst e1 e2
  exact ⟨.refl,hM,rfl⟩
 ·rw [List.getElem?_eq_none (by simpa using hi)] at hd;cases hd
def iR (ga:Env->Mem->Res D):Env->Mem->Res Walk:=fun Z M=>(ga Z M).bind fun x M=>match x with
 |.lst ds=>.ok (fun _=>some ds) M
 |.tup ds=>.ok (fun _=>some ds) M
 |.frz ds=>.ok (fun _=>some ds) M
 |.cell k=>.ok (fun M=>M[k]?) M
 |_=>.bad
theorem Ij (ha:DE fa X a ga):DI fa X tg a (iR ga):=fun pins s σ H R I ⟨μ,Z,M,hE,hM,h⟩=>by
 obtain ⟨x,M1,e,q⟩:=a9 h
 have lst:(∀μ' H',RelM fa X.K μ' H' M1->∀v,Rep fa X.K μ' H' x v->∃ds,gi M1 x=some ds)->(∀J H' μ',Ext μ H μ' H'->RelM fa X.K μ' H' M1->eD fa X.K μ' H' (fun M=>gi M x) J->R J H')->
  wpAny (model X.prog X.w) X.A (eval a X.env) (fun v s1=>wpAny (model X.prog X.w) X.A (pyIter v) (C8 X pins σ tg R) X.xe s1) X.xe s:=fun hx q=>by
  refine D1 ha pins s σ H R I ⟨μ,Z,M,hE,hM,?_⟩
  rw [e]
  intro v H1 μ1 x1 m1 r1
  obtain ⟨ds,er⟩:=hx μ1 H1 m1 v r1
  obtain ⟨ad,vs,rfl,s1,r⟩:=cf m1 r1 er
  exact ⟨ad,rfl,⟨vs,s1⟩,q _ H1 μ1 x1 m1 (yI r1)⟩
 cases x with
 |lst ds=>exact lst (fun _ _ _ _ _=>⟨ds,rfl⟩) q
 |frz ds=>exact lst (fun _ _ _ _ _=>⟨ds,rfl⟩) q
 | tup ds =>
   refine FY ha pins s σ H R I ⟨μ,Z,M,hE,hM,?_⟩
   rw [e]
   intro v H1 μ1 x1 m1 r1
   obtain ⟨ad,vs,rfl,s1,r⟩:=id r1
   exact ⟨ad,rfl,⟨vs,s1⟩,q _ H1 μ1 x1 m1 (AJ r1)⟩
 |cell k=>exact lst (fun μ' H' m' v ⟨ad,_,hk⟩=>let ⟨ds,_,e,_⟩:=m'.mu_lt hk;⟨ds,e⟩) q
 |_=>exact q.elim
def gj (ga:Env->Mem->Res D):Env->Mem->Res Walk:=fun Z M=>(ga Z M).bind fun x M=>match x with
 |.int n=>if -(2^62)<=n/\n<2^62 then .ok (fun _=>some ((List.range n.toNat).map fun (k:Nat)=>D.int (k:Int))) M else .bad
 |_=>.bad
theorem EM (ha:DE fa X a ga)(hg:Gl X "range")(hm:X.mg "range"=none)(hs:starEach [a] X.env=[(false,eval a X.env)]):DI fa X tg (.Call (.Name "range" p) [a] [] pos) (gj ga):=fun pins s σ H R I ⟨μ,Z,M,hE,hM,h⟩=>by
 refine zj hg hm (cp ha eh hs) hs pins s σ H R I ?_
 refine t1 hE hM h fun x M1 v H1 μ1 x1 hE1 hM1 r1 h1=>?_
 cases x with
 | int n =>
   dsimp only at h1
   split at h1
   ·next c=>
    obtain rfl:v=.int n:=r1
    refine ⟨n,rfl,c.1,c.2,h1 _ H1 μ1 x1 hM1 ?_⟩
    have:=AL (fa:=fa) (X:=X) (μ0:=μ1) (H0:=H1) 0 n.toNat
    simpa using this
   ·exact h1.elim
 |_=>exact h1.elim
def iw (t:dv)(gb:Env->Mem->Res Fl):Fl->D->Mem->Res Fl:=fun fl d M=>match fl with
 |.next Z=>(cZ M (cX t d Z)).bind fun ρ1 M=>gb ρ1 M
 |fl=>.ok fl M
def Fl.out:Fl->Bool
 |.next _=>false
 |_=>true
theorem mF {t:dv}{gb:Env->Mem->Res Fl}{fl:Fl}{w:Walk}{P:Fl->Mem->Prop}(ho:fl.out=true):∀(n i:Nat) (M:Mem),aj (fD (iw t gb) w n i fl M) P->P fl M
 |0,_,_,h=>h.elim
 | n + 1, i, M, h => by
   unfold fD at h
   cases e:w M with
   |none=>rw [e] at h;exact h.elim
   | some ds =>
     rw [e] at h
     dsimp only at h
     cases e2:ds[i]? with
     |none=>rw [e2] at h;exact h
     | some d' =>
       rw [e2] at h
       cases fl with
       |next Z=>cases ho
       |ret d=>exact mF ho n (i+1) M h
       |exc x Z=>exact mF ho n (i+1) M h
theorem Ig {t:dv}{body:List Stmt}{gw:Env->Mem->Res Walk}{gb:Env->Mem->Res Fl}(hp:PassesOwn (model X.prog X.w) X.A X.env X.xe)(hc:X.calm=true)(hi:DI fa X tg a gw)(hg:PG X tg (gT fa X.K t))(hb:g8 fa X body gb)
 (hs:∀x,foldedSetIterable a X.env x=pure x):DS fa X (.For tg a body [] pos) (fun Z M=>(gw Z M).bind fun w M=>dP (iw t gb) w (.next Z) M):=
 iK (FX hp hc hi hg hb hs) fun D' σ H ⟨μ,Z,M,hE,hM,h⟩=>by
  obtain ⟨w,M1,e,q⟩:=a9 h
  refine ⟨μ,Z,M,hE,hM,?_⟩
  rw [e]
  intro J H1 μ1 x1 hM1 wk
  have hE1:=hE.ext x1
  refine ⟨fun i m σ' H'=>∃μ' ρ' M',Ext μ1 H1 μ' H'/\bK fa X.K μ' H' σ' ρ'/\RelM fa X.K μ' H' M'/\aj (fD (iw t gb) w m i (.next ρ') M') (oY fa X μ H D'),
   ⟨_,μ1,Z,M1,.refl,hE1,hM1,q⟩,?_⟩
  rintro i m σ2 H2 ⟨μ2,ρ2,M2,x2,hE2,hM2,q2⟩
  cases m with
  |zero=>exact q2.elim
  | succ m =>
    unfold fD at q2
    cases e2:w M2 with
    |none=>rw [e2] at q2;exact q2.elim
    | some ds =>
      rw [e2] at q2
      dsimp only at q2
      obtain ⟨go,stop⟩:=wk μ2 H2 M2 ds x2.toExtW hM2 e2
      cases ed:ds[i]? with
      | none =>
        rw [ed] at q2
        exact .inl ⟨stop i (List.getElem?_eq_none_iff.mp ed),q2 σ2 H2 μ2 (x1.trans x2) hE2 hM2⟩
      | some d =>
        rw [ed] at q2
        obtain ⟨g1,g2⟩:=go i d ed
        refine .inr ⟨g1,fun σ' H'=>∃μ' ρ' M',Ext μ1 H1 μ' H'/\bK fa X.K μ' H' σ' ρ'/\RelM fa X.K μ' H' M'/\aj (fD (iw t gb) w m (i+1) (.next ρ') M') (oY fa X μ H D'),fun σ' H' z=>⟨m,by omega,z⟩,fun y H3 hy=>?_⟩
        obtain ⟨x3,hM3,r3⟩:=g2 y H3 hy
        have q2:aj (((cZ M2 (cX t d ρ2)).bind fun ρ1 M=>gb ρ1 M).bind (fD (iw t gb) w m (i+1))) (oY fa X μ H D'):=q2
        obtain ⟨fl,M4,e4,q4⟩:=a9 q2
        obtain ⟨ρ4,M5,e5,e6⟩:=fF e4
        cases eb:cX t d ρ2 with
        |none=>rw [eb] at e5;cases e5
        | some ρ5 =>
          rw [eb] at e5
          cases e5
          refine ⟨μ2,ρ2,_,d,ρ4,hE2.ext x3,hM3,r3,eb,fun σ5 hE5=>⟨μ2,ρ4,_,hE5,hM3,?_⟩⟩
          rw [e6]
          cases fl with
          |next ρ6=>exact fun σ6 H6 μ6 x6 hE6 hM6=>⟨μ6,ρ6,M4,(x2.trans x3).trans x6,hE6,hM6,q4⟩
          |ret d6=>exact (mF rfl m (i+1) M4 q4).ext ((x1.trans x2).trans x3)
          |exc x6 ρ6=>exact (mF rfl m (i+1) M4 q4).ext ((x1.trans x2).trans x3)
end
end LD
namespace LD
open PySem PySem.Spec PyProof.Rows L2
abbrev FF:Value->Shared->Prop:=fun _ _=>False
section
variable {prog:Program}{w:World}{A:Around}{s:Shared}
theorem Aj {elt:Expr}{gens:List Comprehension}{scope:Scope}{pos p:Pos}{k:Nat}{it acc:Value}{env:PySem.Env}{R:Result->Shared->Prop}{target:Expr}{body:Sem Unit}
 (heq:compTurn (.ListComp elt gens scope pos) k it acc env=(standAt p >>= fun _=>pyNext it >>= fun r=>match r with
  |none=>pure (.done .next)
  |some v=>letOwnedTupleGo target it v >>= fun _=>assign target env v >>= fun _=>body >>= fun _=>again (.compLoop (.ListComp elt gens scope pos) k it acc env)))
 (I:Nat->Shared->Prop)
 (turn:∀n s,I n s->wpAny (model prog w) A (pyNext it) (fun r s₁=>match r with
  |none=>R (.ok .next) s₁
  |some v=>wpAny (model prog w) A (letOwnedTupleGo target it v) (fun _ s₂=>wpAny (model prog w) A (assign target env v) (fun _ s₃=>wpAny (model prog w) A body (fun _ s₄=>∃m,m<n/\I m s₄) FF s₃) FF s₂) FF s₁) FF s)
 (n:Nat) (h:I n s):codeAny (model prog w) A (.compLoop (.ListComp elt gens scope pos) k it acc env) R s:=by
 refine codeAny_loop rfl I (fun n s hI=>?_) n h
 show wpAny _ _ ((compTurn (.ListComp elt gens scope pos) k it acc env).onRaise (fun x=>do noteFrame x env;theTreesLotGoes x)) _ _ s
 refine wpAny_noted ?_
 rw [heq]
 refine wpAny_noRaise ?_
 refine tqa (wpAny_standAt (tqa (bp (turn n s hI) fun r s₁ h₁=>?_)))
 cases r with
 |none=>exact tqb h₁
 | some v =>
   refine tqa (bp h₁ fun _ s₂ h₂=>?_)
   exact tqa (bp h₂ fun _ s₃ h₃=>tqa (bp h₃ fun _ s₄ h₄=>tqb ⟨rfl,h₄⟩))
theorem ui (elt target iter:Expr)(gs:List Comprehension)(scope:Scope)(pos:Pos)(it acc:Value)(env:PySem.Env) :
 compTurn (.ListComp elt [⟨target,iter,[],0⟩] scope pos) 0 it acc env=(standAt iter.pos >>= fun _=>pyNext it >>= fun r=>match r with
  |none=>pure (.done .next)
  |some v=>letOwnedTupleGo target it v >>= fun _=>assign target env v >>= fun _=>(eval elt env >>= fun x=>call (.builtin "list.append") [acc,x] >>= fun _=>pure ()) >>= fun _=>again (.compLoop (.ListComp elt [⟨target,iter,[],0⟩] scope pos) 0 it acc env)):=by rfl
theorem turn_if (elt target iter c:Expr)(scope:Scope)(pos:Pos)(it acc:Value)(env:PySem.Env) :
 compTurn (.ListComp elt [⟨target,iter,[c],0⟩] scope pos) 0 it acc env=(standAt iter.pos >>= fun _=>pyNext it >>= fun r=>match r with
  |none=>pure (.done .next)
  |some v=>letOwnedTupleGo target it v >>= fun _=>assign target env v >>= fun _=>(isTrue c env (eval c env) >>= fun ok=>if ok=true then (eval elt env >>= fun x=>call (.builtin "list.append") [acc,x] >>= fun _=>pure ()) else pure ()) >>= fun _=>again (.compLoop (.ListComp elt [⟨target,iter,[c],0⟩] scope pos) 0 it acc env)):=by
 rw [compTurn_list]
 refine congrArg _ (funext fun _=>congrArg _ (funext fun r=>?_))
 cases r with
 |none=>rfl
 | some v =>
   simp only [List.forIn_cons,List.forIn_nil,if_true,bind_assoc,pure_bind]
   refine congrArg _ (funext fun _=>congrArg _ (funext fun _=>congrArg _ (funext fun ok=>?_)))
   cases ok<;>simp
theorem AO (elt target iter t2 i2:Expr)(scope:Scope)(pos:Pos)(it acc:Value)(env:PySem.Env) :
 compTurn (.ListComp elt [⟨target,iter,[],0⟩,⟨t2,i2,[],0⟩] scope pos) 0 it acc env=(standAt iter.pos >>= fun _=>pyNext it >>= fun r=>match r with
  |none=>pure (.done .next)
  |some v=>letOwnedTupleGo target it v >>= fun _=>assign target env v >>= fun _=>(eval i2 env >>= fun x=>standAt i2.pos >>= fun _=>foldedSetIterable i2 env x >>= fun x=>holding [x] (pyIter x) >>= fun j=>runOwn (.compStart (.ListComp elt [⟨target,iter,[],0⟩,⟨t2,i2,[],0⟩] scope pos) 1 j acc env) env >>= fun _=>pure ()) >>= fun _=>again (.compLoop (.ListComp elt [⟨target,iter,[],0⟩,⟨t2,i2,[],0⟩] scope pos) 0 it acc env)):=by
 unfold compTurn
 simp only [List.getElem?_cons_zero,bne_self_eq_false,Bool.false_eq_true,if_false]
 refine bind_congr fun _=>bind_congr fun r=>?_
 cases r with
 |none=>rfl
 |some v=>simp
theorem AQ (elt target iter t2 i2:Expr)(scope:Scope)(pos:Pos)(it acc:Value)(env:PySem.Env) :
 compTurn (.ListComp elt [⟨target,iter,[],0⟩,⟨t2,i2,[],0⟩] scope pos) 1 it acc env=(standAt i2.pos >>= fun _=>pyNext it >>= fun r=>match r with
  |none=>pure (.done .next)
  |some v=>letOwnedTupleGo t2 it v >>= fun _=>assign t2 env v >>= fun _=>(eval elt env >>= fun x=>call (.builtin "list.append") [acc,x] >>= fun _=>pure ()) >>= fun _=>again (.compLoop (.ListComp elt [⟨target,iter,[],0⟩,⟨t2,i2,[],0⟩] scope pos) 1 it acc env)):=by
 rfl
theorem mM (env:PySem.Env):∀(ns:List (Str×NameKind)) (cs:List (Str×Addr)),(∀y∈ns,y.2=.free->∃c,env.cells.lookup y.1=some c)->(∀x c,cs.lookup x=some c->env.cells.lookup x=some c)->
 ∃cl,(forIn ns cs fun (y:Str×NameKind) (r:List (Str×Addr))=>if (y.2==NameKind.free)=true then cellOf env y.1 >>= fun a=>pure (ForInStep.yield ((y.1,a)::r)) else pure (ForInStep.yield r):Sem _)=pure cl/\
  (∀x c,cl.lookup x=some c->env.cells.lookup x=some c)/\(∀x c,cs.lookup x=some c->∃c',cl.lookup x=some c')/\∀y∈ns,y.2=.free->∃c,cl.lookup y.1=some c
 |[],cs,_,h2=>⟨cs,by simp,h2,fun x c e=>⟨c,e⟩,fun y hy=>nomatch hy⟩
 | (n, k) :: ns, cs, h1, h2 => by
   by_cases hk:k=.free
   ·subst hk
    obtain ⟨a,ha⟩:=h1 (n,.free) List.mem_cons_self rfl
    have lk:∀x c,((n,a)::cs).lookup x=some c->env.cells.lookup x=some c:=fun x c e=>by
     rw [List.lookup_cons] at e
     split at e
     ·next q=>cases e;rw [eq_of_beq q];exact ha
     ·exact h2 x c e
    obtain ⟨cl,e,p1,p2,p3⟩:=mM env ns ((n,a)::cs) (fun y hy=>h1 y (List.mem_cons_of_mem _ hy)) lk
    refine ⟨cl,?_,p1,fun x c q=>?_,fun y hy hf=>?_⟩
    ·rw [List.forIn_cons]
     have ec:cellOf env n=pure a:=by unfold cellOf;rw [ha]
     simp only [beq_self_eq_true,if_true,ec]
     exact e
    ·by_cases hx:x=n
     ·exact p2 x a (by rw [List.lookup_cons,hx];simp)
     ·exact p2 x c (by rw [List.lookup_cons,beq_eq_false_iff_ne.mpr hx];exact q)
    ·rcases List.mem_cons.mp hy with z|z
     ·subst z;exact p2 n a (by simp [List.lookup_cons])
     ·exact p3 y z hf
   ·obtain ⟨cl,e,p1,p2,p3⟩:=mM env ns cs (fun y hy=>h1 y (List.mem_cons_of_mem _ hy)) h2
    refine ⟨cl,?_,p1,p2,fun y hy hf=>?_⟩
    ·rw [List.forIn_cons]
     have eb:(k==NameKind.free)=false:=by simpa using hk
     simp only [eb,Bool.false_eq_true,if_false]
     exact e
    ·rcases List.mem_cons.mp hy with z|z
     ·subst z;exact absurd hf hk
     ·exact p3 y z hf
theorem yo {scope:Scope}{env:PySem.Env}(h:∀y∈scope.names,y.2=.free->∃c,env.cells.lookup y.1=some c) :
 ∃cl,closureFor scope env=pure cl/\(∀x c,cl.lookup x=some c->env.cells.lookup x=some c)/\∀y∈scope.names,y.2=.free->∃c,cl.lookup y.1=some c:=by
 obtain ⟨cl,e,p1,_,p3⟩:=mM env scope.names [] h (fun x c q=>nomatch q)
 exact ⟨cl,by unfold closureFor;simp only [bind_pure];exact e,p1,p3⟩
end
end LD
namespace LD
open PySem PySem.Spec PyProof.Rows L2
def cg (X:Cx)(own bn:List Str)(scope:Scope)(cl:List (Str×Addr))(C:Addr)(fp:List Addr)(s:Shared)(H:Hp):Cx:=
 {X with N:=own++bn,s₀:=s,H₀:=H,env:=compEnvC scope cl C X.env,outer:=X.stack,ex:=fp,fn:=fun _=>false,pn:=[],xe:=FF}
theorem iH {env:PySem.Env}:∀{names:List (Str×NameKind)}{x:Str}{k:NameKind},
 (names.map fun (n,k)=>if (k==NameKind.free&&env.scope.kind==.function&&env.kindOf n==some .cell) then (n,NameKind.cell) else (n,k)).lookup x=some k->
 ∃k0,(x,k0)∈names/\names.lookup x=some k0/\(k=k0\/(k0=.free/\k=.cell))
 |[],_,_,h=>by cases h
 | (n, k0) :: r, x, k, h => by
   have ih:=@iH env r x k
   have h:List.lookup x ((if (k0==NameKind.free&&env.scope.kind==.function&&env.kindOf n==some .cell)=true then (n,NameKind.cell) else (n,k0))::_)=some k:=h
   cases hx:x==n with
   | true =>
     have e:=eq_of_beq hx
     subst e
     refine ⟨k0,List.mem_cons_self,by simp [List.lookup_cons],?_⟩
     split at h
     ·next c=>
      simp [List.lookup_cons] at h
      simp at c
      exact .inr ⟨c.1.1,h.symm⟩
     ·simp [List.lookup_cons] at h
      exact .inl h.symm
   | false =>
     have h':List.lookup x (r.map fun (n,k)=>if (k==NameKind.free&&env.scope.kind==.function&&env.kindOf n==some .cell) then (n,NameKind.cell) else (n,k))=some k:=by
      split at h<;>simpa [List.lookup_cons,hx] using h
     obtain ⟨k1,h1,h2,h3⟩:=ih h'
     exact ⟨k1,List.mem_cons_of_mem _ h1,by simp [List.lookup_cons,hx];exact h2,h3⟩
theorem qk {α β:Type}{R:α->β->Prop}:∀{l:List α}{r:List β}{i:Nat}{x:α},Paired R l r->l[i]?=some x->∃y,r[i]?=some y/\R x y
 |_,_,_,_,.nil,e=>by simp at e
 |_,_,0,_,.cons p _,e=>by simp at e;subst e;exact ⟨_,rfl,p⟩
 | _, _, i + 1, x, .cons _ t, e => by
   obtain ⟨y,h1,h2⟩:=qk (i:=i) (x:=x) t (by simpa using e)
   exact ⟨y,by simpa using h1,h2⟩
structure fA (X:Cx) (own bn:List Str) (scope:Scope):Prop where
 kind:scope.kind=.function
 nocell:∀y∈scope.names,y.2≠.cell
 loc:∀y∈scope.names,y.2=.local->scope.names.lookup y.1=some .local
 free:∀y∈scope.names,y.2=.free->X.env.kindOf y.1=some .cell\/X.env.kindOf y.1=some .free
 dis:Paired (fun b x=>(b=x/\scope.names.lookup x≠some .local)\/scope.names.lookup b=none) bn X.N
section
variable {X:Cx}{pins:List (Addr×Obj)}{σ:L2.St}{H:Hp}{s:Shared}{fp:List Addr}{scope:Scope}{cl:List (Str×Addr)}{own bn:List Str}
structure Cl (X:Cx) (scope:Scope) (cl:List (Str×Addr)):Prop where
 sub:∀x c,cl.lookup x=some c->X.env.cells.lookup x=some c
 has:∀y∈scope.names,y.2=.free->∃c,cl.lookup y.1=some c
theorem EX (I:Inv X pins σ H s)(S:fA X own bn scope)(hcl:Cl X scope cl)(hfp:∀b∈fp,gW X pins H b)(hfo:∀b∈fp,∃o,s.heap.get? b=some o) :
 (cg X own bn scope cl s.heap.objs.size fp s H).Ok where
 mod:=I.ok.mod
 kind:=S.kind
 glob:=I.ok.glob
 blt:=I.ok.blt
 above:=tqg _
 inj:=fun x y c h1 h2=>I.ok.inj x y c (hcl.sub x c h1) (hcl.sub y c h2)
 has:=fun x h=>by
  have key:∀k,(relabel scope X.env).names.lookup x=some k->(k=.cell\/k=.free)->∃c,cl.lookup x=some c:=fun k hk hh=>by
   obtain ⟨k0,h1,h2,h3⟩:=iH hk
   have hf:k0=.free:=by
    rcases h3 with e|⟨e,_⟩
    ·rcases hh with z|z
     ·exact absurd (e.symm.trans z) (S.nocell _ h1)
     ·exact e.symm.trans z
    ·exact e
   exact hcl.has _ h1 hf
  rcases h with h|h
  ·exact key _ h (.inl rfl)
  ·exact key _ h (.inr rfl)
 cab:=fun x c h=>nomatch h
 hd:=I.ok.hd
 frames:=I.ok.frames
 stk:=.inl rfl
 exf:=fun b hb=>⟨fun e=>by
  obtain ⟨o,ho⟩:=hfo b hb
  exact absurd (tqd ho) (by rw [e];exact tqn _),fun x c e=>(hfp b hb).2.2.2.2.1 x c (hcl.sub x c e)⟩
 bs:=fun b o e=>I.bs b o e
 bsz:=tqh I.ok.bsz I.sz
 noex:=fun b o e hb=>by
  rcases (hfp b hb).2.2.2.1 with z|z
  ·exact I.ok.noex b o e z
  ·exact absurd (tqi (tqd e) (tqh I.ok.bsz z)) (tqn _)
 exfs:=fun b hb hx=>by
  rcases List.mem_cons.mp (I.stkSub b hx) with e|e
  ·exact (hfp b hb).2.1 e
  ·exact (hfp b hb).2.2.1 e
 funs:=I.stack
 frf:=fun b hb=>I.stkFree b hb
theorem Cg (I:Inv X pins σ H s)(S:fA X own bn scope)(hcl:Cl X scope cl)(hfp:∀b∈fp,gW X pins H b)(hfo:∀b∈fp,∃o,s.heap.get? b=some o){h':Heap}{t':Nat}{m:Str->Option Value}
 (hn:h'.Ns s.heap.objs.size m) (hk:∀b o,s.heap.get? b=some o->h'.get? b=some o) :
 Inv (cg X own bn scope cl s.heap.objs.size fp s H) [] (List.replicate own.length none++σ) H {s with heap:=h',toks:=t'} where
 ok:=EX I S hcl hfp hfo
 os:=rfl
 bare:=I.bare
 base:=Un.kept hk
 loc:=by
  refine ⟨m,hn,fun i x v e1 e2 hv=>?_⟩
  have e1:(own++bn)[i]?=some x:=e1
  have hi:own.length<=i:=by
   by_cases q:i<own.length
   ·rw [List.getElem?_append_left (by simpa using q),List.getElem?_replicate] at e2
    simp [q] at e2
   ·omega
  rw [List.getElem?_append_right hi] at e1
  rw [List.getElem?_append_right (by simpa using hi)] at e2
  simp only [List.length_replicate] at e2
  have hx:X.N[i-own.length]?=some x/\scope.names.lookup x≠some .local:=by
   rcases qk S.dis e1 with ⟨y,h1,⟨h2,h3⟩|h2⟩
   ·subst h2;exact ⟨h1,h3⟩
   ·exfalso
    have no:∀k,(relabel scope X.env).names.lookup x≠some k:=fun k hk=>by
     obtain ⟨k0,_,h3,_⟩:=iH hk
     rw [h2] at h3;cases h3
    rcases hv with z|z|z
    ·exact no _ z
    ·exact no _ z
    ·exact no _ z
  have key:∀k,(relabel scope X.env).names.lookup x=some k->(k=.local\/k=.cell\/k=.free)->∃c,(k=.cell\/k=.free)/\cl.lookup x=some c/\(X.env.kindOf x=some .cell\/X.env.kindOf x=some .free):=fun k hk2 hh=>by
   obtain ⟨k0,h1,h2,h3⟩:=iH hk2
   have nl:k0≠.local:=fun e=>hx.2 (by rw [h2,e])
   have hf:k0=.free:=by
    rcases h3 with e|⟨e,_⟩
    ·rcases hh with z|z|z
     ·exact absurd (e.symm.trans z) nl
     ·exact absurd (e.symm.trans z) (S.nocell _ h1)
     ·exact e.symm.trans z
    ·exact e
   obtain ⟨c,hc⟩:=hcl.has _ h1 hf
   refine ⟨c,?_,hc,S.free _ h1 hf⟩
   rcases hh with z|z|z
   ·rcases h3 with e|⟨_,e⟩
    ·rw [hf] at e;rw [e] at z;cases z
    ·rw [e] at z;cases z
   ·exact .inl z
   ·exact .inr z
  have fin:∀k,(relabel scope X.env).names.lookup x=some k->(k=.local\/k=.cell\/k=.free)->∃u,RelV v u/\Look (compEnvC scope cl s.heap.objs.size X.env) h' m x u:=fun k hk2 hh=>by
   obtain ⟨c,h1,h2,h3⟩:=key k hk2 hh
   obtain ⟨m0,_,hl⟩:=I.loc
   obtain ⟨u,r,l⟩:=hl _ x v hx.1 e2 (.inr h3)
   refine ⟨u,r,.inr ⟨?_,c,h2,?_⟩⟩
   ·rcases h1 with z|z
    ·subst z;exact .inl hk2
    ·subst z;exact .inr hk2
   ·rcases l with ⟨z,_⟩|⟨_,c',hc',hcell⟩
    ·rcases h3 with q|q
     ·rw [z] at q;cases q
     ·rw [z] at q;cases q
    ·rw [hcl.sub x c h2] at hc';cases hc'
     obtain ⟨o,ho,hd⟩:=hcell
     exact ⟨o,hk _ _ ho,hd⟩
  rcases hv with z|z|z
  ·exact fin _ z (.inl rfl)
  ·exact fin _ z (.inr (.inl rfl))
  ·exact fin _ z (.inr (.inr rfl))
 cell:=fun x c e=>by
  obtain ⟨v,o,ho,hd⟩:=I.cell x c (hcl.sub x c e)
  exact ⟨v,o,hk _ _ ho,hd⟩
 free:=I.hok.fresh (tqg _)
 freeC:=fun x c e=>I.freeC x c (hcl.sub x c e)
 pin:=fun p hp=>nomatch hp
 hok:=I.hok.kept hk
 len:=by
  show (List.replicate own.length none++σ).length=(own++bn).length
  have:=Paired.length S.dis
  simp [I.len,this]
theorem comp_back (I:Inv X pins σ H s)(hfp:∀b∈fp,gW X pins H b){pins':List (Addr×Obj)}{σ':L2.St}{H':Hp}{s':Shared}{C:Addr}(I':Inv (cg X own bn scope cl C fp s H) pins' σ' H' s'):Inv X pins σ H' s':=
 I.call' (ch:=fp) I'.os I'.base I'.hok I'.bare fun b hb=>⟨(hfp b hb).2.2.2.1,(hfp b hb).2.1,(hfp b hb).2.2.2.2.1,(hfp b hb).2.2.2.2.2⟩
theorem Ak (I:Inv X pins σ H s){σ':L2.St}{H':Hp}{s':Shared}(hf:H' s.heap.objs.size=none)(I':Inv X pins σ' H' s'){h'':Heap}(hs:Heap.SameBut s.heap.objs.size s'.heap h''):Inv X pins σ' H' {s' with heap:=h''}:=
 I'.turned (t':=s'.toks) (fun b o hb e=>(hs.2 b hb).trans e) hf (Nat.ne_of_gt I.lt) (.inr I.sz) (fun x c e z=>by
  obtain ⟨v,q⟩:=I.cell x c e
  exact absurd q.lt (by rw [z];exact tqn _)) fun p hp z=>absurd (tqd (I.pin p hp).1) (by rw [z];exact tqn _)
end
end LD
namespace LD
open PySem PySem.Spec PyProof.Rows L2
structure gF (a:Addr) (μ:Mu) (H:Hp) (μ':Mu) (H':Hp):Prop extends ExtW μ H μ' H' where
 pr:μ'.priv=μ.priv
 pk:∀b∈μ.priv,b≠a->H' b=H b
theorem gF.refl {a:Addr}{μ:Mu}{H:Hp}:gF a μ H μ H:=⟨.refl,rfl,fun _ _ _=>rfl⟩
theorem gF.trans {a:Addr}{μ μ1 μ2:Mu}{H H1 H2:Hp}(x:gF a μ H μ1 H1)(y:gF a μ1 H1 μ2 H2):gF a μ H μ2 H2:=
 ⟨x.toExtW.trans y.toExtW,y.pr.trans x.pr,fun b hb n=>(y.pk b (by rw [x.pr];exact hb) n).trans (x.pk b hb n)⟩
theorem Ext.toD {a:Addr}{μ μ':Mu}{H H':Hp}(x:Ext μ H μ' H'):gF a μ H μ' H':=⟨x.toExtW,x.pr,fun b hb _=>x.pk b hb⟩
def slots:dv->List Nat
 |.one i=>[i]
 |.tup l=>l
def Clear (W:List Nat)(Z:Env):Prop:=∀i∈W,∀d,Z[i]?≠some (some d)
section
variable {fa:Fa}{K:PySem.W.Frag}{μ μ':Mu}{H H':Hp}{σ:L2.St}{Z ρ1:Env}{M:Mem}{a:Addr}
theorem bK.weak (h:bK fa K μ H σ ρ1)(hl:ρ1.length=Z.length)(w:∀(i:Nat) d,Z[i]?=some (some d)->ρ1[i]?=some (some d)):bK fa K μ H σ Z:=
 ⟨h.len.trans hl,fun i d e=>h.at' i d (w i d e)⟩
theorem qb:∀{l:List Nat}{ds:List D}{Z ρ1:Env},gm l ds Z=some ρ1->ρ1.length=Z.length/\∀i,i∉l->ρ1[i]?=Z[i]?
 |[],[],Z,ρ1,h=>by cases h;exact ⟨rfl,fun _ _=>rfl⟩
 |_::_,[],_,_,h=>by cases h
 |[],_::_,_,_,h=>by cases h
 | j :: l, d :: ds, Z, ρ1, h => by
   obtain ⟨h1,h2⟩:=qb (l:=l) (ds:=ds) h
   refine ⟨by simpa using h1,fun i hi=>?_⟩
   rw [h2 i (fun z=>hi (List.mem_cons_of_mem _ z)),List.getElem?_set_ne (fun z=>hi (by rw [z];exact List.mem_cons_self))]
theorem sZ {t:dv}{d:D}(h:cX t d Z=some ρ1):ρ1.length=Z.length/\∀i,i∉slots t->ρ1[i]?=Z[i]?:=by
 cases t with
 | one j =>
   have h:some (Z.set j (some d))=some ρ1:=h
   cases h
   exact ⟨by simp,fun i hi=>List.getElem?_set_ne (fun z=>hi (by rw [z];exact List.mem_cons_self))⟩
 | tup l =>
   cases d with
   |tup ds=>exact qb h
   |_=>cases h
theorem bK.unbind {t:dv}{d:D}(h:cX t d Z=some ρ1)(c:Clear (slots t) Z)(r:bK fa K μ H σ ρ1):bK fa K μ H σ Z:=by
 obtain ⟨h1,h2⟩:=sZ h
 refine r.weak h1 fun i d e=>?_
 by_cases hi:i∈slots t
 ·exact absurd e (c i hi d)
 ·rw [h2 i hi];exact e
theorem RelM.writeP (h:RelM fa K μ H M){ws vs:List V}(e:a∈μ.priv)(hH:H a=some (.lst vs)):RelM fa K μ (upd H a (.lst ws)) M:=by
 have x:ExtW μ H μ (upd H a (.lst ws)):=ExtW.write hH (.inr e)
 refine ⟨fun k ds q=>?_,h.out,h.inj,fun b hb=>⟨?_,(h.pv b hb).2⟩⟩
 ·obtain ⟨b,us,h1,h2,h3⟩:=h.at' k ds q
  have nb:b≠a:=fun z=>(h.pv a e).2 k (by rw [h1,z])
  exact ⟨b,us,h1,by rw [aP nb];exact h2,h3.extW x⟩
 ·by_cases hb':b=a
  ·subst hb';exact ⟨ws,cb⟩
  ·obtain ⟨us,q⟩:=(h.pv b hb).1
   exact ⟨us,by rw [aP hb'];exact q⟩
theorem gF.writeP {ws vs:List V}(e:a∈μ.priv)(hH:H a=some (.lst vs)):gF a μ H μ (upd H a (.lst ws)):=
 ⟨ExtW.write hH (.inr e),rfl,fun b _ n=>by rw [aP n]⟩
end
def WB (fa:Fa)(K:PySem.W.Frag)(a:Addr)(μ:Mu)(H:Hp)(Z:Env)(Q:L2.St->Hp->Prop)(acc:List D)(M':Mem):Prop:=
 ∀σ' H' μ' vs',gF a μ H μ' H'->bK fa K μ' H' σ' Z->RelM fa K μ' H' M'->H' a=some (.lst vs')->aX fa K μ' H' acc vs'->Q σ' H'
theorem WB.ext {fa:Fa}{K:PySem.W.Frag}{a:Addr}{μ μ1:Mu}{H H1:Hp}{Z:Env}{Q:L2.St->Hp->Prop}{acc:List D}{M':Mem}(h:WB fa K a μ H Z Q acc M')(x:gF a μ H μ1 H1):WB fa K a μ1 H1 Z Q acc M':=
 fun σ' H' μ' vs' y e m h1 h2=>h σ' H' μ' vs' (x.trans y) e m h1 h2
def DB (fa:Fa)(X:Cx)(a:Addr)(W:List Nat)(body:Sem Unit)(g:Env->List D->Mem->Res (List D)):Prop:=
 ∀(pins:List (Addr×Obj)) (s:Shared) (σ:L2.St) (H:Hp) (Q:L2.St->Hp->Prop) (μ:Mu) (Z:Env) (M:Mem) (acc:List D) (vs:List V),Inv X pins σ H s->bK fa X.K μ H σ Z->RelM fa X.K μ H M->Clear W Z->a∈μ.priv->H a=some (.lst vs)->aX fa X.K μ H acc vs->
  aj (g Z acc M) (WB fa X.K a μ H Z Q)->wpAny (model X.prog X.w) X.A body (fun _ s'=>∃σ' H',Inv X pins σ' H' s'/\Q σ' H') X.xe s
def cF (ge:Env->Mem->Res D):Env->List D->Mem->Res (List D):=fun Z acc M=>(ge Z M).bind fun x M=>if acc.length<sz then .ok (acc++[x]) M else .bad
def oU (gc:Env->Mem->Res Bool)(g:Env->List D->Mem->Res (List D)):Env->List D->Mem->Res (List D):=fun Z acc M=>(gc Z M).bind fun k M=>if k then g Z acc M else .ok acc M
def dR (t:dv)(g:Env->List D->Mem->Res (List D))(Z:Env):List D->D->Mem->Res (List D):=fun acc d M=>(cZ M (cX t d Z)).bind fun ρ1 M=>g ρ1 acc M
def rP (t:dv)(gw:Env->Mem->Res Walk)(g:Env->List D->Mem->Res (List D)):Env->List D->Mem->Res (List D):=fun Z acc M=>(gw Z M).bind fun w M=>dP (dR t g Z) w acc M
section
variable {fa:Fa}{X:Cx}{a:Addr}
theorem nS {elt:Expr}{ge:Env->Mem->Res D}(he:DE fa X elt ge):DB fa X a [] (eval elt X.env >>= fun x=>call (.builtin "list.append") [.ref a,x] >>= fun _=>pure ()) (cF ge):=by
 intro pins s σ H Q μ Z M acc vs I hE hM hc ha hH hr h
 obtain ⟨x,M1,e,q⟩:=a9 h
 split at q
 ·next hz=>
  have q:WB fa X.K a μ H Z Q (acc++[x]) M1:=q
  refine tqa (bp (he pins s σ H (fun v H1=>∃μ1,Ext μ H μ1 H1/\RelM fa X.K μ1 H1 M1/\Rep fa X.K μ1 H1 x v) I ⟨μ,Z,M,hE,hM,?_⟩) fun u s1 ⟨v,H1,I1,rv,μ1,x1,m1,r1⟩=>?_)
  ·rw [e];exact fun v H1 μ1 x1 m1 r1=>⟨μ1,x1,m1,r1⟩
  have hH1:H1 a=some (.lst vs):=by rw [x1.pk a ha];exact hH
  have ha1:a∈μ1.priv:=by rw [x1.pr];exact ha
  have hl:vs.length<sizeLine:=by rw [hr.length,<- dQ];exact hz
  refine tqa (bp (sN pins s1 σ H1 (.ref a) [v] (.ref a) [u] (fun _ H2=>H2=upd H1 a (.lst (vs++[v]))) I1 rfl (.cons rv .nil) ⟨a,vs,v,rfl,rfl,hH1,hl,rfl⟩) fun _ s2 ⟨_,H2,I2,_,e2⟩=>tqb ⟨σ,H2,I2,?_⟩)
  subst e2
  have xd:gF a μ1 H1 μ1 (upd H1 a (.lst (vs++[v]))):=gF.writeP ha1 hH1
  exact q σ _ μ1 (vs++[v]) (x1.toD.trans xd) ((hE.ext x1).extW xd.toExtW) (m1.writeP ha1 hH1) cb (((hr.ext x1).append (.one r1)).extW xd.toExtW)
 ·exact q.elim
theorem C3 {c:Expr}{gc:Env->Mem->Res Bool}{W:List Nat}{body:Sem Unit}{g:Env->List D->Mem->Res (List D)}(hc:DT fa X c gc)(hb:DB fa X a W body g) :
 DB fa X a W (isTrue c X.env (eval c X.env) >>= fun ok=>if ok=true then body else pure ()) (oU gc g):=by
 intro pins s σ H Q μ Z M acc vs I hE hM hw ha hH hr h
 obtain ⟨k,M1,e,q⟩:=a9 h
 refine tqa (bp (hc pins s σ H (fun b H1=>b=k/\∃μ1,Ext μ H μ1 H1/\RelM fa X.K μ1 H1 M1) I ⟨μ,Z,M,hE,hM,?_⟩) fun b s1 ⟨H1,I1,eb,μ1,x1,m1⟩=>?_)
 ·rw [e];exact fun H1 μ1 x1 m1=>⟨rfl,μ1,x1,m1⟩
 subst eb
 have hH1:H1 a=some (.lst vs):=by rw [x1.pk a ha];exact hH
 have ha1:a∈μ1.priv:=by rw [x1.pr];exact ha
 cases b with
 | true =>
   rw [if_pos rfl]
   exact hb pins s1 σ H1 Q μ1 Z M1 acc vs I1 (hE.ext x1) m1 hw ha1 hH1 (hr.ext x1) (bo q fun _ _ w=>w.ext x1.toD)
 | false =>
   rw [if_neg tqj]
   have q:WB fa X.K a μ H Z Q acc M1:=q
   exact tqb ⟨σ,H1,I1,q σ H1 μ1 vs x1.toD (hE.ext x1) m1 hH1 (hr.ext x1)⟩
theorem wQ {elt:Expr}{gens:List Comprehension}{scope:Scope}{pos p:Pos}{k:Nat}{tg:Expr}{body:Sem Unit}{t:dv}{W:List Nat}{g:Env->List D->Mem->Res (List D)}{it:Addr}{fp:List Addr}{tn:Nat->Heap->Prop}{J:It}
 (heq:compTurn (.ListComp elt gens scope pos) k (.ref it) (.ref a) X.env=(standAt p >>= fun _=>pyNext (.ref it) >>= fun r=>match r with
  |none=>pure (.done .next)
  |some v=>letOwnedTupleGo tg (.ref it) v >>= fun _=>assign tg X.env v >>= fun _=>body >>= fun _=>again (.compLoop (.ListComp elt gens scope pos) k (.ref it) (.ref a) X.env)))
 (hx:X.xe=FF) (hcalm:X.calm=true) (T:Turn X.prog X.w X.K tg J fp it tn) (hg:PG X tg (gT fa X.K t)) (hb:DB fa X a W body g) (hW:∀i∈W,i∉slots t)
 {pins:List (Addr×Obj)}{s:Shared}{σ:L2.St}{H:Hp}{Q:L2.St->Hp->Prop}{μ:Mu}{Z:Env}{M:Mem}{acc:List D}{vs:List V}{w:Walk} (I:Inv X pins σ H s) (st:tn 0 s.heap) (hf:∀b∈fp,gW X pins H b) (hE:bK fa X.K μ H σ Z) (hM:RelM fa X.K μ H M)
 (hcl:Clear (slots t++W) Z) (ha:a∈μ.priv) (hH:H a=some (.lst vs)) (hr:aX fa X.K μ H acc vs) (wk:eD fa X.K μ H w J) (q:aj (dP (dR t g Z) w acc M) (WB fa X.K a μ H Z Q)) :
 codeAny (model X.prog X.w) X.A (.compLoop (.ListComp elt gens scope pos) k (.ref it) (.ref a) X.env) (fun r s'=>r=.ok .next/\∃σ' H',Inv X pins σ' H' s'/\Q σ' H') s:=by
 have stat:∀{H':Hp},(∀b∈fp,H' b=none)->∀b∈fp,gW X pins H' b:=fun hn b hb=>⟨hn b hb,(hf b hb).2⟩
 have clt:Clear (slots t) Z:=fun i hi=>hcl i (List.mem_append_left _ hi)
 have clW:∀d ρ1,cX t d Z=some ρ1->Clear W ρ1:=fun d ρ1 e i hi d' z=>by
  rw [(sZ e).2 i (hW i hi)] at z
  exact hcl i (List.mem_append_right _ hi) d' z
 let P:Nat->Nat->Shared->Prop:=fun m i s'=>∃σ' H' μ' M' acc' vs',Inv X pins σ' H' s'/\tn i s'.heap/\(∀b∈fp,H' b=none)/\gF a μ H μ' H'/\bK fa X.K μ' H' σ' Z/\RelM fa X.K μ' H' M'/\H' a=some (.lst vs')/\aX fa X.K μ' H' acc' vs'/\
  aj (fD (dR t g Z) w m i acc' M') (WB fa X.K a μ H Z Q)
 have P0:∃m,P m 0 s:=⟨_,σ,H,μ,M,acc,vs,I,st,fun b hb=>(hf b hb).1,.refl,hE,hM,hH,hr,q⟩
 obtain ⟨m0,P0⟩:=P0
 have hturn:∀(n:Nat) (i:Nat) (s3:Shared),P n i s3->wpAny (model X.prog X.w) X.A (pyNext (.ref it)) (fun r s₁=>match r with
  |none=>(∃σ' H',Inv X pins σ' H' s₁/\Q σ' H')
  |some v=>wpAny (model X.prog X.w) X.A (letOwnedTupleGo tg (.ref it) v) (fun _ s₂=>wpAny (model X.prog X.w) X.A (assign tg X.env v) (fun _ s₃=>wpAny (model X.prog X.w) X.A body (fun _ s₄=>∃m,m<n/\P m (i+1) s₄) FF s₃) FF s₂) FF s₁) FF s3:=by
  rintro n i s3 ⟨σ3,H3,μ3,M3,acc3,vs3,I3,st3,fr3,x3,hE3,hM3,hH3,hr3,q3⟩
  have ha3:a∈μ3.priv:=by rw [x3.pr];exact ha
  have one:∀(d:D) (rest:List D->Mem->Res (List D)) (next:List D->Mem->Prop),J.go i H3->(∀x H',J.yld i H3 x H'->Ext μ3 H3 μ3 H'/\RelM fa X.K μ3 H' M3/\Rep fa X.K μ3 H' d x)->aj ((dR t g Z acc3 d M3).bind rest) (WB fa X.K a μ H Z Q)->
   (∀σ' H' μ' M' acc' vs' s',Inv X pins σ' H' s'->tn (i+1) s'.heap->(∀b∈fp,H' b=none)->gF a μ H μ' H'->bK fa X.K μ' H' σ' Z->RelM fa X.K μ' H' M'->H' a=some (.lst vs')->aX fa X.K μ' H' acc' vs'->aj (rest acc' M') (WB fa X.K a μ H Z Q)->∃m,m<n/\P m (i+1) s')->
   wpAny (model X.prog X.w) X.A (pyNext (.ref it)) (fun r s₁=>match r with
    |none=>(∃σ' H',Inv X pins σ' H' s₁/\Q σ' H')
    |some v=>wpAny (model X.prog X.w) X.A (letOwnedTupleGo tg (.ref it) v) (fun _ s₂=>wpAny (model X.prog X.w) X.A (assign tg X.env v) (fun _ s₃=>wpAny (model X.prog X.w) X.A body (fun _ s₄=>∃m,m<n/\P m (i+1) s₄) FF s₃) FF s₂) FF s₁) FF s3:=by
   intro d rest next go yl qd fin
   refine bp (T.item X rfl rfl rfl hcalm i pins s3 σ3 H3 FF I3 (stat fr3) st3 go) fun r s4 ⟨u,hr4,h4⟩=>?_
   subst hr4
   refine bp h4 fun _ s5 ⟨x,H5,I5,r5,y5,st5,fr5⟩=>?_
   obtain ⟨x5,hM5,rd⟩:=yl x H5 y5
   have I5':=I5.pinned (stat fr5) (T.obj _ _ st5)
   obtain ⟨acc6,M6,e6,q6⟩:=a9 qd
   obtain ⟨ρ1,M7,e7,e8⟩:=fF e6
   cases eb:cX t d Z with
   |none=>rw [eb] at e7;cases e7
   | some ρ2 =>
     rw [eb] at e7
     cases e7
     have hg':=hg _ s5 σ3 H5 x u (fun σ' H'=>H'=H5/\bK fa X.K μ3 H5 σ' ρ1) I5' r5 ⟨μ3,Z,_,d,ρ1,hE3.ext x5,hM5,rd,eb,fun σ1 h1=>⟨rfl,h1⟩⟩
     rw [hx] at hg'
     refine bp hg' fun _ s6 ⟨σ6,H6,I6,eH,hE6⟩=>?_
     subst eH
     have hH6:H6 a=some (.lst vs3):=by rw [x5.pk a ha3];exact hH3
     have hb':=hb _ s6 σ6 H6 (fun σ' H'=>∃μ' vs',gF a μ3 H6 μ' H'/\bK fa X.K μ' H' σ' ρ1/\RelM fa X.K μ' H' M6/\H' a=some (.lst vs')/\aX fa X.K μ' H' acc6 vs') μ3 ρ1 _ acc3 vs3 I6 hE6 hM5 (clW d ρ1 eb) ha3 hH6 (hr3.ext x5) (by
      rw [e8];exact fun σ' H' μ' vs' z1 z2 z3 z4 z5=>⟨μ',vs',z1,z2,z3,z4,z5⟩)
     rw [hx] at hb'
     refine bp hb' fun _ s7 ⟨σ7,H7,I7,μ7,vs7,x7,hE7,hM7,hH7,hr7⟩=>?_
     refine fin σ7 H7 μ7 M6 acc6 vs7 s7 I7.unpinned (T.keep _ _ _ st5 fun b hb o e=>(I7.pin (b,o) (List.mem_append_right _ (List.mem_append_right _ (jZ hb e)))).1) (fun b hb=>?_) ((x3.trans x5.toD).trans x7) (hE7.unbind eb clt) hM7 hH7 hr7 q6
     obtain ⟨o,e,dd⟩:=T.obj _ _ st5 b hb
     exact (I7.pin (b,o) (List.mem_append_right _ (List.mem_append_right _ (jZ hb e)))).2.1
  have stop:J.stop i H3->aj (.ok acc3 M3) (WB fa X.K a μ H Z Q)->wpAny (model X.prog X.w) X.A (pyNext (.ref it)) (fun r s₁=>match r with
   |none=>(∃σ' H',Inv X pins σ' H' s₁/\Q σ' H')
   |some v=>wpAny (model X.prog X.w) X.A (letOwnedTupleGo tg (.ref it) v) (fun _ s₂=>wpAny (model X.prog X.w) X.A (assign tg X.env v) (fun _ s₃=>wpAny (model X.prog X.w) X.A body (fun _ s₄=>∃m,m<n/\P m (i+1) s₄) FF s₃) FF s₂) FF s₁) FF s3:=fun hs q=>by
   refine bp (T.done X rfl rfl rfl hcalm i pins s3 σ3 H3 FF I3 (stat fr3) st3 hs) fun r s4 ⟨hr4,I4⟩=>?_
   subst hr4
   have q:WB fa X.K a μ H Z Q acc3 M3:=q
   exact ⟨σ3,H3,I4,q σ3 H3 μ3 vs3 x3 hE3 hM3 hH3 hr3⟩
  cases n with
  |zero=>exact q3.elim
  | succ n =>
    unfold fD at q3
    cases e2:w M3 with
    |none=>rw [e2] at q3;exact q3.elim
    | some ds =>
      rw [e2] at q3
      dsimp only at q3
      obtain ⟨go,stp⟩:=wk μ3 H3 M3 ds x3.toExtW hM3 e2
      cases ed:ds[i]? with
      | none =>
        rw [ed] at q3
        exact stop (stp i (List.getElem?_eq_none_iff.mp ed)) q3
      | some d =>
        rw [ed] at q3
        obtain ⟨g1,g2⟩:=go i d ed
        refine one d (fD (dR t g Z) w n (i+1)) (fun _ _=>True) g1 g2 q3 ?_
        intro σ' H' μ' M' acc' vs' s' z1 z2 z3 z4 z5 z6 z7 z8 z9
        exact ⟨n,by omega,σ',H',μ',M',acc',vs',z1,z2,z3,z4,z5,z6,z7,z8,z9⟩
 refine Aj heq (fun n s'=>∃i,P n i s') (fun n s3 ⟨i,h3⟩=>?_) m0 ⟨0,P0⟩
 refine bp (hturn n i s3 h3) fun r s1 h=>?_
 cases r with
 |none=>exact ⟨rfl,h⟩
 |some v=>exact bp h fun _ s2 h=>bp h fun _ s3 h=>bp h fun _ s4 ⟨m,hm,h⟩=>⟨m,hm,i+1,h⟩
end
end LD
namespace LD
open PySem PySem.Spec PyProof.Rows L2
section
variable {prog:Program}{w:World}{A:Around}{s:Shared}{R:Result->Shared->Prop}
theorem tL {elt t1 i1 t2 i2:Expr}{f1 f2:List Expr}{scope:Scope}{pos:Pos}{it acc:Value}{env:PySem.Env}
 (h0:codeAny (model prog w) A (.compLoop (.ListComp elt [⟨t1,i1,f1,0⟩,⟨t2,i2,f2,0⟩] scope pos) 1 it acc env) R s)
 (h:wpAny (model prog w) A (pyIter it) (fun it' s'=>codeAny (model prog w) A (.compLoop (.ListComp elt [⟨t1,i1,f1,0⟩,⟨t2,i2,f2,0⟩] scope pos) 1 it' acc env) R s')
  (notedBy (model prog w) A env fun x s'=>R (.error x) s') s) :
 codeAny (model prog w) A (.compStart (.ListComp elt [⟨t1,i1,f1,0⟩,⟨t2,i2,f2,0⟩] scope pos) 1 it acc env) R s:=by
 refine codeAny_of_tree ?_
 show wpAny _ _ ((compStart (.ListComp elt [⟨t1,i1,f1,0⟩,⟨t2,i2,f2,0⟩] scope pos) 1 it acc env).onRaise (fun x=>do noteFrame x env;standAt theWindowsPlace)) _ _ s
 refine wpAny_notedAt ?_
 unfold compStart
 show wpAny _ _ (ask >>= _) _ _ s
 refine tqa (wpAny_askSetting (wpAny_ite ?_))
 split
 ·first
   |exact tqa (tqb (tqb (And.intro rfl h0)))
   |exact tqb (And.intro rfl h0)
 ·first
   |exact tqa (wpAny_rule (tqa (wpAny_standAt (tqa (wpAny_mono h (fun it' s' h'=>tqb (And.intro rfl h')) fun _ _ x=>x)))))
   |(refine tqa (wpAny_rule ?_);show wpAny _ _ (standAt i2.pos >>= _) _ _ s;exact tqa (wpAny_standAt (tqa (wpAny_mono h (fun it' s' h'=>tqb (And.intro rfl h')) fun _ _ x=>x))))
end
section
variable {fa:Fa}{X:Cx}{a:Addr}
theorem Il {elt t1 i1 t2 i2:Expr}{scope:Scope}{pos:Pos}{t:dv}{gw:Env->Mem->Res Walk}{ge:Env->Mem->Res D}(hx:X.xe=FF)(hcalm:X.calm=true)(hi:DI fa X t2 i2 gw)(hg:PG X t2 (gT fa X.K t))(he:DE fa X elt ge)
 (hs:∀x,foldedSetIterable i2 X.env x=pure x) :
 DB fa X a (slots t) (eval i2 X.env >>= fun x=>standAt i2.pos >>= fun _=>foldedSetIterable i2 X.env x >>= fun x=>holding [x] (pyIter x) >>= fun j=>runOwn (.compStart (.ListComp elt [⟨t1,i1,[],0⟩,⟨t2,i2,[],0⟩] scope pos) 1 j (.ref a) X.env) X.env >>= fun _=>pure ()) (rP t gw (cF ge)):=by
 intro pins s σ H Q μ Z M acc vs I hE hM hc ha hH hr h
 obtain ⟨w,M1,e,q⟩:=a9 h
 refine tqa (bp (hi pins s σ H (fun J H1=>∃μ1,Ext μ H μ1 H1/\RelM fa X.K μ1 H1 M1/\eD fa X.K μ1 H1 w J) I ⟨μ,Z,M,hE,hM,?_⟩) fun v s1 h1=>?_)
 ·rw [e];exact fun J H1 μ1 x1 m1 wk=>⟨μ1,x1,m1,wk⟩
 refine tqa (wpAny_standAt (tqa (wpAny_of_eq (hs v) (tqa (tqo (bp h1 fun itv s2 h2=>?_))))))
 obtain ⟨it,fp,tn,J,H2,ei,I2,T,st2,f2,μ2,x2,m2,wk⟩:=h2
 subst ei
 have hH2:H2 a=some (.lst vs):=by rw [x2.pk a ha];exact hH
 have ha2:a∈μ2.priv:=by rw [x2.pr];exact ha
 have go:=wQ (elt:=elt) (gens:=[⟨t1,i1,[],0⟩,⟨t2,i2,[],0⟩]) (scope:=scope) (pos:=pos) (W:=[]) (Q:=Q) (AQ elt t1 i1 t2 i2 scope pos (.ref it) (.ref a) X.env) hx hcalm T hg (nS he) (fun i hi=>nomatch hi) I2 st2 f2 (hE.ext x2) m2 (by simpa using hc) ha2 hH2 (hr.ext x2) wk (bo q fun _ _ z=>z.ext x2.toD)
 refine tqa (wpAny_runOwn (h:=none) ?_)
 have go':codeAny (model X.prog X.w) (X.A.mark none) (.compLoop (.ListComp elt [⟨t1,i1,[],0⟩,⟨t2,i2,[],0⟩] scope pos) 1 (.ref it) (.ref a) X.env) (fun r s'=>match r with|.ok f=>wpAny (model X.prog X.w) X.A (pure ():Sem Unit) (fun _ s'=>∃σ' H',Inv X pins σ' H' s'/\Q σ' H') X.xe s'|.error e=>cameBackBy (model X.prog X.w) X.A X.env X.xe e s') s2:=
  codeAny_mono go fun r s' ⟨er,z⟩=>by subst er;exact tqb z
 exact tL go' (T.self _ 0 _ _ _ st2 go')
end
end LD
namespace LD
open PySem PySem.Spec PyProof.Rows L2
section
variable {fa:Fa}{K:PySem.W.Frag}{μ1 μ':Mu}{H1 H':Hp}{M1 M':Mem}{a:Addr}
def Hs (μ:Mu)(a:Addr):Mu:=⟨μ.pub,a::μ.priv⟩
theorem nP (h:RelM fa K μ1 H1 M1)(ha:H1 a=none)(o:HO):ExtW μ1 H1 (Hs μ1 a) (upd H1 a o):=by
 have x:ExtW μ1 H1 μ1 (upd H1 a o):=(Ext.alloc h ha).toExtW
 refine ⟨x.mu,x.tups,fun b vs e n=>⟨(x.lsts b vs e n).1,fun z=>?_⟩,x.frzs,x.exts⟩
 rcases z with z|z
 ·exact n (.inl z)
 ·rcases List.mem_cons.mp z with z|z
  ·subst z;rw [ha] at e;cases e
  ·exact n (.inr z)
theorem zg (h:RelM fa K μ1 H1 M1)(ha:H1 a=none)(vs:List V):RelM fa K (Hs μ1 a) (upd H1 a (.lst vs)) M1:=by
 have x:=nP h ha (.lst vs)
 refine ⟨fun k ds e=>?_,h.out,h.inj,fun b hb=>?_⟩
 ·obtain ⟨b,ws,h1,h2,h3⟩:=h.at' k ds e
  exact ⟨b,ws,h1,by rw [aP (br h2 ha)];exact h2,h3.extW x⟩
 ·rcases List.mem_cons.mp hb with z|z
  ·subst z
   exact ⟨⟨vs,cb⟩,fun k e=>by
    obtain ⟨_,_,_,q,_⟩:=h.mu_lt e
    rw [ha] at q;cases q⟩
  ·obtain ⟨⟨ws,q⟩,n⟩:=h.pv b z
   exact ⟨⟨ws,by rw [aP (br q ha)];exact q⟩,n⟩
theorem DQ {m:Bool}{acc:List D}{vs:List V}{Q:VK}(h:RelM fa K μ1 H1 M1)(ha:H1 a=none)(x:gF a (Hs μ1 a) (upd H1 a (.lst [])) μ' H')(hM:RelM fa K μ' H' M')(hH:H' a=some (.lst vs))(hr:aX fa K μ' H' acc vs)
 (q:aj (bT m acc M') (bH fa K μ1 H1 Q)):Q (.ref a) H':=by
 have na:a∉μ1.priv:=fun z=>h.pne ha z rfl
 have hp:μ'.priv=a::μ1.priv:=x.pr
 have nk:∀k,μ'.pub k≠some a:=(hM.pv a (by rw [hp];exact List.mem_cons_self)).2
 have x0:=nP h ha (.lst [])
 have xe:Ext μ1 H1 ⟨μ'.pub,μ1.priv⟩ H':=by
  refine ⟨⟨fun k b e=>x.mu k b e,fun b ws e=>x.tups b ws (x0.tups b ws e),fun b ws e n=>?_,fun b ob u e=>x.frzs b ob u (x0.frzs b ob u e),fun b o i e=>x.exts b o i (x0.exts b o i e)⟩,rfl,fun b hb=>?_⟩
  ·obtain ⟨z1,z2⟩:=x0.lsts b ws e n
   obtain ⟨z3,z4⟩:=x.lsts b ws z1 z2
   refine ⟨z3,fun z=>z4 ?_⟩
   rcases z with z|z
   ·exact .inl z
   ·exact .inr (by rw [hp];exact List.mem_cons_of_mem _ z)
  ·have nb:b≠a:=fun e=>na (by rw [<- e];exact hb)
   rw [x.pk b (List.mem_cons_of_mem _ hb) nb,aP nb]
 have xw:ExtW μ' H' ⟨μ'.pub,μ1.priv⟩ H':=⟨fun _ _ e=>e,fun _ _ e=>e,fun b ws e n=>⟨e,fun z=>n (z.elim .inl fun z=>.inr (by rw [hp];exact List.mem_cons_of_mem _ z))⟩,fun _ _ _ e=>e,fun _ _ _ e=>e⟩
 have me:RelM fa K ⟨μ'.pub,μ1.priv⟩ H' M':=⟨fun k ds e=>let ⟨b,ws,h1,h2,h3⟩:=hM.at' k ds e;⟨b,ws,h1,h2,h3.extW xw⟩,hM.out,hM.inj,fun b hb=>hM.pv b (by rw [hp];exact List.mem_cons_of_mem _ hb)⟩
 have re:aX fa K ⟨μ'.pub,μ1.priv⟩ H' acc vs:=hr.extW xw
 have nMt:¬ (⟨μ'.pub,μ1.priv⟩:Mu).Mt a:=fun z=>z.elim (fun ⟨k,e⟩=>nk k e) na
 unfold bT at q
 split at q
 ·cases m with
  | false =>
    have q:bH fa K μ1 H1 Q (.lst acc) M':=q
    exact q (.ref a) H' _ xe me ⟨a,vs,rfl,⟨hH,nMt⟩,re⟩
  | true =>
    have q:bH fa K μ1 H1 Q (.cell M'.length) (M'++[acc]):=q
    have pc:∀k b,(gL ⟨μ'.pub,μ1.priv⟩ M'.length a).pub k=some b->(k=M'.length/\b=a)\/(k≠M'.length/\μ'.pub k=some b):=fun k b e=>by
     have e:(if k=M'.length then some a else μ'.pub k)=some b:=e
     split at e
     ·next z=>cases e;exact .inl ⟨z,rfl⟩
     ·next z=>exact .inr ⟨z,e⟩
    have mc:∀k b,μ'.pub k=some b->(gL ⟨μ'.pub,μ1.priv⟩ M'.length a).pub k=some b:=fun k b e=>by
     show (if k=M'.length then some a else μ'.pub k)=some b
     split
     ·next z=>rw [z,hM.out _ (tqg _)] at e;cases e
     ·exact e
    have ac:(gL ⟨μ'.pub,μ1.priv⟩ M'.length a).pub M'.length=some a:=by
     show (if M'.length=M'.length then some a else _)=some a
     rw [if_pos rfl]
    have nc:∀b,¬ μ'.Mt b->¬ (gL ⟨μ'.pub,μ1.priv⟩ M'.length a).Mt b:=fun b n z=>by
     rcases z with ⟨k,z⟩|z
     ·rcases pc k b z with ⟨_,e⟩|⟨_,e⟩
      ·exact n (.inr (by rw [hp,e];exact List.mem_cons_self))
      ·exact n (.inl ⟨k,e⟩)
     ·exact n (.inr (by rw [hp];exact List.mem_cons_of_mem _ z))
    have xc:ExtW μ' H' (gL ⟨μ'.pub,μ1.priv⟩ M'.length a) H':=⟨mc,fun _ _ e=>e,fun b ws e n=>⟨e,nc b n⟩,fun _ _ _ e=>e,fun _ _ _ e=>e⟩
    have xe2:Ext μ1 H1 (gL ⟨μ'.pub,μ1.priv⟩ M'.length a) H':=by
     refine ⟨⟨fun k b e=>mc k b (x.mu k b e),xe.tups,fun b ws e n=>?_,xe.frzs,xe.exts⟩,rfl,xe.pk⟩
     obtain ⟨z1,z2⟩:=x0.lsts b ws e n
     obtain ⟨z3,z4⟩:=x.lsts b ws z1 z2
     exact ⟨z3,nc b z4⟩
    have mce:RelM fa K (gL ⟨μ'.pub,μ1.priv⟩ M'.length a) H' (M'++[acc]):=by
     refine ⟨fun k ds e=>?_,fun k hk=>?_,fun j k b e1 e2=>?_,fun b hb=>?_⟩
     ·by_cases hk:k<M'.length
      ·rw [List.getElem?_append_left hk] at e
       obtain ⟨b,ws,h1,h2,h3⟩:=hM.at' k ds e
       exact ⟨b,ws,mc k b h1,h2,h3.extW xc⟩
      ·have hk':k=M'.length:=by
        have:=(List.getElem?_eq_some_iff.mp e).1
        simp at this;omega
       subst hk'
       rw [List.getElem?_append_right (tqg _)] at e
       simp at e
       subst e
       exact ⟨a,vs,ac,hH,hr.extW xc⟩
     ·simp at hk
      show (if k=M'.length then some a else μ'.pub k)=none
      rw [if_neg (by omega)]
      exact hM.out k (by omega)
     ·rcases pc j b e1 with ⟨j1,j2⟩|⟨j1,j2⟩<;>rcases pc k b e2 with ⟨k1,k2⟩|⟨k1,k2⟩
      ·omega
      ·exact absurd (j2 ▸ k2) (nk k)
      ·exact absurd (k2 ▸ j2) (nk j)
      ·exact hM.inj j k b j2 k2
     ·have hb:b∈μ1.priv:=hb
      obtain ⟨z1,z2⟩:=hM.pv b (by rw [hp];exact List.mem_cons_of_mem _ hb)
      refine ⟨z1,fun k e=>?_⟩
      rcases pc k b e with ⟨_,e⟩|⟨_,e⟩
      ·exact na (e ▸ hb)
      ·exact z2 k e
    exact q (.ref a) H' _ xe2 mce ⟨a,rfl,ac⟩
 ·exact q.elim
end
section
variable {fa:Fa}{X:Cx}
def cG (m:Bool)(n:Nat)(t:dv)(gw:Env->Mem->Res Walk)(g:Env->List D->Mem->Res (List D)):Env->Mem->Res D:=fun Z M=>
 (gw Z M).bind fun w M=>(dP (dR t g (List.replicate n none++Z)) w [] M).bind (bT m)
def qM (X:Cx)(elt tg iter:Expr)(ifs:List Expr)(rest:List Comprehension)(scope:Scope)(pos:Pos)(body:Addr->PySem.Env->Sem Unit):Prop:=
 ∀(it a:Addr) (env:PySem.Env),compTurn (.ListComp elt (⟨tg,iter,ifs,0⟩::rest) scope pos) 0 (.ref it) (.ref a) env=(standAt iter.pos >>= fun _=>pyNext (.ref it) >>= fun r=>match r with
  |none=>pure (.done .next)
  |some v=>letOwnedTupleGo tg (.ref it) v >>= fun _=>assign tg env v >>= fun _=>body a env >>= fun _=>again (.compLoop (.ListComp elt (⟨tg,iter,ifs,0⟩::rest) scope pos) 0 (.ref it) (.ref a) env))
structure Block (fa:Fa) (X:Cx) (own bn:List Str) (scope:Scope) (tg:Expr) (t:dv) (W:List Nat) (body:Addr->PySem.Env->Sem Unit) (g:Env->List D->Mem->Res (List D)):Prop where
 pg:∀cl C fp s H,PG (cg X own bn scope cl C fp s H) tg (gT fa X.K t)
 db:∀cl C fp s H a,DB fa (cg X own bn scope cl C fp s H) a W (body a (compEnvC scope cl C X.env)) g
theorem Al {n:Nat}{W:List Nat}{Z:Env}(h:∀i∈W,i<n):Clear W (List.replicate n none++Z):=fun i hi d e=>by
 rw [List.getElem?_append_left (by simpa using h i hi),List.getElem?_replicate] at e
 simp [h i hi] at e
theorem Bf {K:PySem.W.Frag}{μ:Mu}{H:Hp}{σ:L2.St}{Z:Env}(n:Nat)(h:bK fa K μ H σ Z):bK fa K μ H (List.replicate n none++σ) (List.replicate n none++Z):=by
 refine ⟨by simp [h.len],fun i d e=>?_⟩
 by_cases hi:i<n
 ·rw [List.getElem?_append_left (by simpa using hi),List.getElem?_replicate] at e
  simp [hi] at e
 ·rw [List.getElem?_append_right (by simp;omega)] at e ⊢
  simp only [List.length_replicate] at e ⊢
  exact h.at' _ d e
theorem qJ {elt tg iter:Expr}{ifs:List Expr}{rest:List Comprehension}{scope:Scope}{pos p0:Pos}{own bn:List Str}{t:dv}{W:List Nat}{body:Addr->PySem.Env->Sem Unit}{gw:Env->Mem->Res Walk}{g:Env->List D->Mem->Res (List D)}{m:Bool}
 (S:fA X own bn scope) (hcalm:X.calm=true) (hi:DI fa X tg iter gw) (B:Block fa X own bn scope tg t W body g) (hT:qM X elt tg iter ifs rest scope pos body) (hW:∀i∈W,i∉slots t) (hn:∀i∈slots t++W,i<own.length)
 (hs:∀x,foldedSetIterable iter X.env x=pure x) {use:Option (Value->Sem Unit)}{QQ:Value->Shared->Prop}
 {pins:List (Addr×Obj)}{s:Shared}{σ:L2.St}{H:Hp}{Q:VK}{μ:Mu}{Z:Env}{M:Mem} (I:Inv X pins σ H s) (hE:bK fa X.K μ H σ Z) (hM:RelM fa X.K μ H M) (h:aj (cG m own.length t gw g Z M) (bH fa X.K μ H Q))
 (post:∀(a C:Addr) (s':Shared) (H':Hp),Inv X pins σ H' s'->Q (.ref a) H'->(∃m,s'.heap.Ns C m)->(∀σ2 H2 s2,Inv X pins σ2 H2 s2->(H' C=none->H2 C=none)->H2 C=none/\∀h'',Heap.SameBut C s2.heap h''->Inv X pins σ2 H2 {s2 with heap:=h''})->H' C=none->(C≠X.env.locals/\∀x c,X.env.cells.lookup x=some c->c≠C)->compPost (model X.prog X.w) X.A X.xe use QQ (.ref a) C (.ok .next) s') :
 wpAny (model X.prog X.w) X.A (comprehension (.ListComp elt (⟨tg,iter,ifs,0⟩::rest) scope pos) scope X.env p0 (newList []) false (eval iter X.env) use) QQ X.xe s:=by
 obtain ⟨w,M1,ew,q⟩:=a9 h
 obtain ⟨acc,M2,ea,q2⟩:=a9 q
 obtain ⟨cl,hcl,hsub,hhas⟩:=yo (scope:=scope) (env:=X.env) fun y hy hf=>I.ok.has y.1 (S.free y hy hf)
 have CL:Cl X scope cl:=⟨hsub,hhas⟩
 refine wpAny_comprehension_free (use:=use) rfl hs hcl S.kind S.loc ?_
 refine bp (hi pins s σ H (fun J H1=>∃μ1,Ext μ H μ1 H1/\RelM fa X.K μ1 H1 M1/\eD fa X.K μ1 H1 w J) I ⟨μ,Z,M,hE,hM,?_⟩) fun v s1 h1=>bp h1 fun itv s2 h2=>?_
 ·rw [ew];exact fun J H1 μ1 x1 m1 wk=>⟨μ1,x1,m1,wk⟩
 obtain ⟨it,fp,tn,J,H2,ei,I2,T,st2,f2,μ2,x2,m2,wk⟩:=h2
 subst ei
 refine wpAny_newObj_type ?_
 have ha:H2 s2.heap.objs.size=none:=I2.hok.fresh (tqg _)
 have I3:Inv X pins σ (upd H2 s2.heap.objs.size (.lst [])) {s2 with heap:=s2.heap.push {cls:=.type "list",dict:=none,data:=.seq ([]:List Value).toArray}}:=
  I2.laid (t':=s2.toks) (fun b o e=>tqc _ e) (tqg _) ⟨Nat.zero_le _,[],_,.nil,tqe _ rfl⟩
 generalize hs3:({s2 with heap:=s2.heap.push {cls:=.type "list",dict:=none,data:=.seq ([]:List Value).toArray}}:Shared)=s3 at I3 ⊢
 have k3:∀b o,s2.heap.get? b=some o->s3.heap.get? b=some o:=fun b o e=>by rw [<- hs3];exact tqc _ e
 have fo2:=T.obj _ _ st2
 have f3:∀b∈fp,gW X pins (upd H2 s2.heap.objs.size (.lst [])) b:=fun b hb=>by
  obtain ⟨o,e,_⟩:=fo2 b hb
  exact ⟨by rw [aP (tqk (tqd e))];exact (f2 b hb).1,(f2 b hb).2⟩
 have fo3:∀b∈fp,∃o,s3.heap.get? b=some o:=fun b hb=>let ⟨o,e,_⟩:=fo2 b hb;⟨o,k3 b o e⟩
 refine wpAny_newFunctionEnv S.nocell (by intro y hy;simp at hy) (fun h₁ hns₁ hsb₁=>?_) S.kind
 have k4:∀b o,s3.heap.get? b=some o->h₁.get? b=some o:=fun b o e=>hsb₁.extBut b o (tqk (tqd e)) (tqc _ e)
 have I4:=Cg (own:=own) (bn:=bn) (t':=s3.toks+([]:List (Str×Value)).length) I3 S CL f3 fo3 hns₁ k4
 have ok4:=I4.ok
 have f4:∀b∈fp,gW (cg X own bn scope cl s3.heap.objs.size fp s3 (upd H2 s2.heap.objs.size (.lst []))) [] (upd H2 s2.heap.objs.size (.lst [])) b:=fun b hb=>
  ⟨(f3 b hb).1,(ok4.exf b hb).1,ok4.exfs b hb,.inl hb,(ok4.exf b hb).2,fun p hp=>nomatch hp⟩
 have st4:tn 0 h₁:=T.keep _ _ _ st2 fun b hb o e=>k4 b o (k3 b o e)
 have x3:=nP m2 ha (.lst [])
 have go:=wQ (X:=cg X own bn scope cl s3.heap.objs.size fp s3 (upd H2 s2.heap.objs.size (.lst []))) (fa:=fa) (a:=s2.heap.objs.size) (W:=W) (t:=t) (g:=g) (acc:=[]) (vs:=[]) (Q:=fun _ H'=>Q (.ref s2.heap.objs.size) H') (hT it s2.heap.objs.size _) rfl hcalm T (B.pg _ _ _ _ _) (B.db _ _ _ _ _ _) hW I4 st4 f4
  (Bf own.length ((hE.ext x2).extW x3)) (zg m2 ha []) (Al hn) List.mem_cons_self cb rfl (yH wk x3) (by
   rw [ea]
   intro σ' H' μ' vs' z1 z2 z3 z4 z5
   exact DQ (m:=m) m2 ha z1 z3 z4 z5 (lV q2 x2))
 have go':codeAny (model X.prog X.w) X.A (.compLoop (.ListComp elt (⟨tg,iter,ifs,0⟩::rest) scope pos) 0 (.ref it) (.ref s2.heap.objs.size) (compEnvC scope cl s3.heap.objs.size X.env)) (compPost (model X.prog X.w) X.A X.xe use QQ (.ref s2.heap.objs.size) s3.heap.objs.size) {s3 with heap:=h₁,toks:=s3.toks+([]:List (Str×Value)).length}:=
  codeAny_mono go fun r s' ⟨er,σ',H',I',z⟩=>by
   subst er
   refine post _ _ s' H' (comp_back I3 f3 I') z (let ⟨m,hn,_⟩:=I'.loc;⟨m,hn⟩) (fun σ2 H2 s2' I2' hf=>⟨hf I'.free,fun h'' hs''=>Ak I3 (hf I'.free) I2' hs''⟩) I'.free ⟨Nat.ne_of_gt I3.lt,fun x c e z=>by
    obtain ⟨v,q⟩:=I3.cell x c e
    exact absurd q.lt (by rw [z];exact tqn _)⟩
 exact codeAny_compStart_list go' (T.self _ 0 _ _ _ st4 go')
theorem Ag (m:Bool){elt tg iter:Expr}{ifs:List Expr}{rest:List Comprehension}{scope:Scope}{pos:Pos}{own bn:List Str}{t:dv}{W:List Nat}{body:Addr->PySem.Env->Sem Unit}{gw:Env->Mem->Res Walk}{g:Env->List D->Mem->Res (List D)}
 (S:fA X own bn scope) (hcalm:X.calm=true) (hi:DI fa X tg iter gw) (B:Block fa X own bn scope tg t W body g) (hT:qM X elt tg iter ifs rest scope pos body) (hW:∀i∈W,i∉slots t) (hn:∀i∈slots t++W,i<own.length)
 (hs:∀x,foldedSetIterable iter X.env x=pure x):DE fa X (.ListComp elt (⟨tg,iter,ifs,0⟩::rest) scope pos) (cG m own.length t gw g):=by
 intro pins s σ H Q I ⟨μ,Z,M,hE,hM,h⟩
 rw [eval_ListComp]
 refine qJ (use:=none) S hcalm hi B hT hW hn hs I hE hM h ?_
 intro a C s' H' I' q ⟨m,hn⟩ gone hf _
 exact ⟨m,hn,fun h' hs'=>⟨.ref a,H',(gone σ H' s' I' id).2 h' hs',rfl,q⟩⟩
theorem yk (m:Bool){i:Nat}{y:Str}{py spos:Pos}{elt tg iter:Expr}{ifs:List Expr}{rest:List Comprehension}{scope:Scope}{pos:Pos}{own bn:List Str}{t:dv}{W:List Nat}{body:Addr->PySem.Env->Sem Unit}{gw:Env->Mem->Res Walk}{g:Env->List D->Mem->Res (List D)}
 (S:fA X own bn scope) (hcalm:X.calm=true) (hi:DI fa X tg iter gw) (B:Block fa X own bn scope tg t W body g) (hT:qM X elt tg iter ifs rest scope pos body) (hW:∀i∈W,i∉slots t) (hn:∀i∈slots t++W,i<own.length)
 (hs:∀x,foldedSetIterable iter X.env x=pure x) (hN:X.N.Nodup) (hy:X.N[i]?=some y) (hl:X.env.scope.names.lookup y=some .local)
 (hsw:swapsWith (.ListComp elt (⟨tg,iter,ifs,0⟩::rest) scope pos) (some (.Name y py)) spos.line X.env=pure true) :
 DS fa X (.Assign [.Name y py] (.ListComp elt (⟨tg,iter,ifs,0⟩::rest) scope pos) spos) (fun Z M=>(cG m own.length t gw g Z M).bind fun x M=>(cZ M (cX (.one i) x Z)).bind fun ρ1 M=>.ok (.next ρ1) M):=by
 intro pins s σ H D' I ⟨μ,Z,M,hE,hM,h⟩
 obtain ⟨x,M1,ex,q⟩:=a9 h
 have q:∀σ' H' μ',Ext μ H μ' H'->bK fa X.K μ' H' σ' (Z.set i (some x))->RelM fa X.K μ' H' M1->D'.nx σ' H':=q
 rw [exec_Assign_Name_used _ _ _ _ hsw]
 refine tqa (wpAny_standAt (tqa ?_))
 show wpAny _ X.A (do let _ <- comprehension (.ListComp elt (⟨tg,iter,ifs,0⟩::rest) scope pos) scope X.env _ (newList []) false (eval iter X.env) (some (assign (.Name y py) X.env))) _ _ s
 refine tqa (bp (qJ (use:=some (assign (.Name y py) X.env)) (QQ:=fun _ s'=>SP X pins D' .next s') (Q:=fun v H'=>D'.nx (σ.set i (some v)) H') S hcalm hi B hT hW hn hs I hE hM (by
  rw [ex]
  exact fun v H' μ' x1 m1 r1=>q _ H' μ' x1 ((hE.ext x1).set r1) m1) ?_) fun _ s' hq=>tqb (tqb hq))
 intro a C s' H' I' q ⟨m,hn⟩ gone hf ⟨nL,nC⟩
 refine wpAny_assign_Name (sr I' hN hy (.inl hl) (v:=.ref a) rfl (fun s2 I2 ⟨b,hb,hb2⟩=>?_) (.inr hl))
 have nb:C≠b:=by
  rcases hb2 with z|z
  ·rw [z];exact nL
  ·exact Ne.symm (nC y b z)
 exact ⟨m,hn.sameBut hb nb,fun h' hs'=>⟨_,H',(gone _ H' s2 I2 id).2 h' hs',q⟩⟩
end
end LD
namespace LD
open PySem PySem.Spec PyProof.Rows L2
section
variable {X:Cx}{pins:List (Addr×Obj)}{σ:L2.St}{H:Hp}{s:Shared}{h':Heap}{t':Nat}{ch:List Addr}
theorem qR (I:Inv X pins σ H s)(hf:∀b∈ch,gW X pins H b)(k:∀b o,b∉ch->s.heap.get? b=some o->h'.get? b=some o):Inv X pins σ H {s with heap:=h',toks:=t'}:=by
 have nit:∀b u,H b=some u->b∉ch:=fun b u e z=>by rw [(hf b z).1] at e;cases e
 refine I.step (g':=s.gens) (d':=s.drawn) (ch:=ch) (fun b hb=>⟨(hf b hb).2.2.2.1,(hf b hb).2.1,(hf b hb).2.2.2.2.1,(hf b hb).2.2.2.2.2⟩) (fun b o _ _ hc e _=>k b o hc e) (fun b o _ _ hc e _=>⟨o.slots,k b o hc e⟩) (fun _ _ _ _ n=>n)
  (fun b o hc e=>⟨o,k b o hc e⟩) (fun _ _ e=>e) (fun _ _ _ e=>e) (fun b ps e=>⟨#[],by rw [e];simp⟩) (fun m hm=>?_) (fun b u e=>?_) I.bare
 ·obtain ⟨o,es,ep,ho,r⟩:=hm
  exact ⟨o,es,ep,k _ o (fun z=>(hf _ z).2.1 rfl) ho,r⟩
 ·refine (I.hok b u e).stay (fun c v hc q=>k c v ?_ q) (fun _ q=>q) fun _ _ q=>q
  rcases hc with z|z
  ·rw [z];exact nit b u e
  ·exact nit c _ z
theorem mZ {T:Addr}{o:HO}(I:Inv X pins σ H s)(hf:∀b∈ch,gW X pins H b)(k:∀b o,b∉ch->s.heap.get? b=some o->h'.get? b=some o)(hT:s.heap.objs.size<=T)(new:di X.prog X.w (upd H T o) h' T o) :
 Inv X pins σ (upd H T o) {s with heap:=h',toks:=t'}:=by
 have hn:H T=none:=I.hok.fresh hT
 have nit:∀b u,H b=some u->b∉ch:=fun b u e z=>by rw [(hf b z).1] at e;cases e
 refine I.step (g':=s.gens) (d':=s.drawn) (ch:=ch) (fun b hb=>⟨(hf b hb).2.2.2.1,(hf b hb).2.1,(hf b hb).2.2.2.2.1,(hf b hb).2.2.2.2.2⟩) (fun b o _ _ hc e _=>k b o hc e) (fun b o _ _ hc e _=>⟨o.slots,k b o hc e⟩)
  (fun b o _ e n=>by rw [aP (tqk (tqi (tqd e) hT))];exact n)
  (fun b o hc e=>⟨o,k b o hc e⟩) (fun b xs e=>by rw [aP (br e hn)];exact e) (fun b ob u e=>by rw [aP (br e hn)];exact e) (fun b ps e=>⟨#[],by rw [aP (br e hn),e];simp⟩) (fun m hm=>?_) (fun b u e=>?_) I.bare
 ·obtain ⟨o,es,ep,ho,r⟩:=hm
  exact ⟨o,es,ep,k _ o (fun z=>(hf _ z).2.1 rfl) ho,r⟩
 ·by_cases hb:b=T
  ·subst hb;rw [cb] at e;cases e;exact new
  ·rw [aP hb] at e
   refine (I.hok b u e).stay (fun c v hc q=>k c v ?_ q) (fun c q=>by rw [aP (br q hn)];exact q) fun c xs q=>by rw [aP (br q hn)];exact q
   rcases hc with z|z
   ·rw [z];exact nit b u e
   ·exact nit c _ z
end
def Kx (K:PySem.W.Frag)(a:Addr):It:=
 ⟨fun i H=>∃xs x,dg K H a xs/\xs[i]?=some x,fun i H v H'=>∃p x,H p=none/\v=.ref p/\H'=upd H p (.tup [.int i,x])/\∀xs,dg K H a xs->xs[i]?=some x,fun i H=>∃xs,dg K H a xs/\xs.length<=i⟩
theorem yO {P:Program}{w:World}{K:PySem.W.Frag}{elts:List Expr}{kk:Nat}{pos:Pos}(a it e:Addr)(hne:e≠it) :
 Turn P w K (.Tuple elts kk pos) (Kx K a) [e,it] e (fun i h=>(∃old,IsEnum h e it (i:Nat) old)/\h.IsListIter it a i) where
 mem:=by simp
 obj:=fun i h ⟨⟨old,he⟩,o,ho,c,d⟩ b hb=>by
  rcases List.mem_cons.mp hb with z|z
  ·subst z;exact ⟨_,he,fun v z=>by cases z⟩
  ·have e:b=it:=by simpa using z
   subst e
   exact ⟨o,ho,fun v z=>by rw [d] at z;cases z⟩
 keep:=fun i h h' ⟨⟨old,he⟩,st⟩ k=>⟨⟨old,k e (by simp) _ he⟩,st.at fun o e=>k it (by simp) o e⟩
 item:=by
  intro X hP hw hK hc i pins s σ H E I hf st hg
  subst hP hw hK
  obtain ⟨xs,x,hq,hx⟩:=hg
  obtain ⟨⟨old,he⟩,hit⟩:=st
  obtain ⟨its,rv,p,hz⟩:=I.list hq
  obtain ⟨u,hu,ru⟩:=rv.get hx
  refine wpAny_pyNext_enum_item he hit p.isList (x:=u) (by simpa using hu) hne fun h1 ho hit1 hT hsz hk=>⟨_,rfl,?_⟩
  have hT0:H s.heap.objs.size=none:=I.hok.fresh (tqg _)
  have elt:e<s.heap.objs.size:=tqd he
  refine wpAny_letOwnedTupleGo_enum (s:={s with heap:=h1,toks:=s.toks+1}) ho fun h2 he2 hs2=>?_
  have he2:IsEnum h2 e it ((i+1:Nat):Int) u:=by simpa using he2
  have hT2:h2.get? s.heap.objs.size=some {cls:=.type "tuple",data:=.seq #[.int i s.toks,u]}:=(hs2.2 _ (Nat.ne_of_gt elt)).trans hT
  refine ⟨.ref s.heap.objs.size,upd H s.heap.objs.size (.tup [.int i,x]),mZ (s:=s) (t':=s.toks+1) I hf (fun b o hb q=>(hs2.2 b (fun z=>hb (by simp [z]))).trans (hk b o (fun z=>hb (by simp [z])) (fun z=>hb (by simp [z])) q)) (tqg _) ⟨?_,[.int i s.toks,u],.cons ⟨_,rfl⟩ (.cons ru .nil),⟨_,hT2,rfl,_,rfl⟩⟩,rfl,
   ⟨_,x,hT0,rfl,rfl,fun ys hy=>by rw [I.list_inj hy hq];exact hx⟩,⟨⟨u,he2⟩,hit1.extBut hs2.extBut (Ne.symm hne)⟩,fun b hb=>?_⟩
  ·show 2<=sizeLine;decide
  ·have:b<s.heap.objs.size:=by
    rcases List.mem_cons.mp hb with z|z
    ·subst z;exact elt
    ·have e:b=it:=by simpa using z
     subst e
     obtain ⟨o,e,_⟩:=hit;exact tqd e
   rw [aP (tqk this)];exact (hf b hb).1
 done:=by
  intro X hP hw hK hc i pins s σ H E I hf st hg
  subst hP hw hK
  obtain ⟨xs,hq,hx⟩:=hg
  obtain ⟨⟨old,he⟩,hit⟩:=st
  obtain ⟨its,rv,p,hz⟩:=I.list hq
  have hl:=rv.length
  exact wpAny_pyNext_enum_end (I.ok.hd hc) he hit p.isList (by simp;omega) fun h' eb=>⟨rfl,qR I hf (t':=s.toks) fun b o hb q=>eb b o (fun z=>hb (by simp [z])) q⟩
 self:=fun _ _ _ _ _ ⟨⟨old,he⟩,_⟩ h=>wpAny_pyIter_enum he h
section
variable {fa:Fa}{X:Cx}{a:Expr}{ga:Env->Mem->Res D}{pos p:Pos}
theorem eR:∀(ds:List D) (k i:Nat),(dn k ds)[i]?=(ds[i]?).map fun d=>.tup [.int ((k+i:Nat):Int),d]
 |[],_,_=>by simp [dn]
 |d::ds,k,0=>by simp [dn]
 | d :: ds, k, i + 1 => by
   have:=eR ds (k+1) i
   simp only [dn,List.getElem?_cons_succ,this]
   congr 1
   funext d
   congr 3
   omega
theorem iT:∀(ds:List D) (k:Nat),(dn k ds).length=ds.length
 |[],_=>rfl
 |d::ds,k=>by simp [dn,iT ds]
theorem yJ {μ0:Mu}{H0:Hp}{dd:D}{ad:Addr}(h:Rep fa X.K μ0 H0 dd (.ref ad)):eD fa X.K μ0 H0 (fun M=>(gi M dd).map (dn 0)) (Kx X.K ad):=fun μ H M ds x hM e=>by
 dsimp only at e
 cases e0:gi M dd with
 |none=>rw [e0] at e;cases e
 | some es =>
   rw [e0] at e
   have e:dn 0 es=ds:=Option.some.inj e
   subst e
   obtain ⟨ad',vs,ea,s,r⟩:=cf hM (Rep.extW x h) e0
   cases ea
   refine ⟨fun i d hd=>?_,fun i hi=>⟨vs,s,by rw [r.length,<- iT es 0];exact hi⟩⟩
   rw [eR] at hd
   cases e1:es[i]? with
   |none=>rw [e1] at hd;cases hd
   | some d0 =>
     rw [e1] at hd
     have hd:D.tup [.int ((0+i:Nat):Int),d0]=d:=Option.some.inj hd
     subst hd
     obtain ⟨v,hv,rv⟩:=r.get e1
     refine ⟨⟨vs,v,s,hv⟩,fun y H' ⟨q,z,hq,ey,eH,hy⟩=>?_⟩
     have:=hy vs s
     rw [hv] at this;cases this
     subst eH ey
     refine ⟨Ext.alloc hM hq,hM.alloc hq,q,[.int i,v],rfl,.inl (.inl cb),.int i,[v],rfl,?_,v,[],rfl,rv.ext (Ext.alloc hM hq),rfl⟩
     show V.int i=V.int ((0+i:Nat):Int)
     rw [Nat.zero_add]
def mK (ga:Env->Mem->Res D):Env->Mem->Res Walk:=fun Z M=>(ga Z M).bind fun x M=>match x with
 |.lst ds=>.ok (fun _=>some (dn 0 ds)) M
 |.frz ds=>.ok (fun _=>some (dn 0 ds)) M
 |.cell k=>.ok (fun M=>(M[k]?).map (dn 0)) M
 |_=>.bad
theorem EN {elts:List Expr}{kk:Nat}{tp:Pos}(ha:DE fa X a ga)(hg:Gl X "enumerate")(hm:X.mg "enumerate"=none)(hs:starEach [a] X.env=[(false,eval a X.env)]):DI fa X (.Tuple elts kk tp) (.Call (.Name "enumerate" p) [a] [] pos) (mK ga):=by
 intro pins s σ H R I ⟨μ,Z,M,hE,hM,h⟩
 obtain ⟨x,M1,e,q⟩:=a9 h
 have key:(∀μ' H',RelM fa X.K μ' H' M1->∀v,Rep fa X.K μ' H' x v->∃ds,gi M1 x=some ds)->(∀J H' μ',Ext μ H μ' H'->RelM fa X.K μ' H' M1->eD fa X.K μ' H' (fun M=>(gi M x).map (dn 0)) J->R J H')->
  wpAny (model X.prog X.w) X.A (eval (.Call (.Name "enumerate" p) [a] [] pos) X.env) (fun v s1=>wpAny (model X.prog X.w) X.A (pyIter v) (C8 X pins σ (.Tuple elts kk tp) R) X.xe s1) X.xe s:=fun hx q=>by
  refine Call_ (iN I hg hm boot_enumerate (PyProof.Rows.callWith_type1 (bp (cp ha eh hs pos pins s σ H (fun vs H1=>∃v μ1,vs=[v]/\Ext μ H μ1 H1/\RelM fa X.K μ1 H1 M1/\Rep fa X.K μ1 H1 x v) I ⟨μ,Z,M,hE,hM,?_⟩) fun us s1 ⟨vs,H1,I1,r1,v,μ1,ev,x1,m1,rv⟩=>?_) hs rfl))
  ·rw [e];exact fun v H1 μ1 x1 m1 r1=>⟨v,μ1,rfl,x1,m1,r1⟩
  subst ev
  obtain ⟨ds,er⟩:=hx μ1 H1 m1 v rv
  obtain ⟨ad,vs,rfl,s1',r⟩:=cf m1 rv er
  cases r1 with
  | cons r1 rr =>
    cases rr
    obtain rfl:=r1
    obtain ⟨its,rvs,pl,hz⟩:=I1.list s1'
    refine call_enumerate_list pl.isList fun h1 he hit hsz hk=>?_
    have I2:Inv X pins σ H1 {s1 with heap:=h1}:=I1.kept (t':=s1.toks) hk
    refine wpAny_pyIter_enum (s:={s1 with heap:=h1}) he ?_
    refine ⟨s1.heap.objs.size+1,[s1.heap.objs.size+1,s1.heap.objs.size],_,_,H1,rfl,I2,yO ad s1.heap.objs.size (s1.heap.objs.size+1) (Nat.succ_ne_self _),⟨⟨.none,he⟩,hit⟩,fun b hb=>?_,q _ H1 μ1 x1 m1 (yJ rv)⟩
    have hb:s1.heap.objs.size<=b:=by
     rcases List.mem_cons.mp hb with z|z
     ·subst z;exact Nat.le_succ _
     ·have e:b=s1.heap.objs.size:=by simpa using z
      subst e;exact tqg _
    exact I1.fpOk hb (I1.hok.fresh hb)
 cases x with
 |lst ds=>exact key (fun _ _ _ _ _=>⟨ds,rfl⟩) q
 |frz ds=>exact key (fun _ _ _ _ _=>⟨ds,rfl⟩) q
 |cell k=>exact key (fun μ' H' m' v ⟨ad,_,hk⟩=>let ⟨ds,_,e,_⟩:=m'.mu_lt hk;⟨ds,e⟩) q
 |_=>exact q.elim
end
end LD
namespace LD
open PySem PySem.Spec PyProof.Rows L2
def ba:Bool->Heap->Addr->Array Value->Prop
 |true,h,a,its=>h.IsList a its
 |false,h,a,its=>h.IsTuple a its
def bF:Bool->Heap->Addr->Addr->Nat->Prop
 |true,h,it,a,i=>h.IsListIter it a i
 |false,h,it,a,i=>h.IsTupleIter it a i
theorem ba.extBut {b:Bool}{h h':Heap}{a c:Addr}{its:Array Value}(x:ba b h a its)(hs:Heap.ExtBut c h h')(n:a≠c):ba b h' a its:=by
 cases b<;>(obtain ⟨o,ho,r⟩:=x;exact ⟨o,hs a o n ho,r⟩)
theorem bF.extBut {b:Bool}{h h':Heap}{it a c:Addr}{i:Nat}(x:bF b h it a i)(hs:Heap.ExtBut c h h')(n:it≠c):bF b h' it a i:=by
 cases b<;>(obtain ⟨o,ho,r⟩:=x;exact ⟨o,hs it o n ho,r⟩)
theorem bF.at {b:Bool}{h h':Heap}{it a:Addr}{i:Nat}(x:bF b h it a i)(k:∀o,h.get? it=some o->h'.get? it=some o):bF b h' it a i:=by
 cases b<;>(obtain ⟨o,ho,r⟩:=x;exact ⟨o,k o ho,r⟩)
theorem bF.obj {b:Bool}{h:Heap}{it a:Addr}{i:Nat}(x:bF b h it a i):∃o,h.get? it=some o/\∀v,o.data≠.cell v:=by
 cases b<;>(obtain ⟨o,ho,c,d⟩:=x;exact ⟨o,ho,fun v z=>by rw [d] at z;cases z⟩)
section
variable {prog:Program}{w:World}{A:Around}{E:Value->Shared->Prop}{s:Shared}
theorem aJ {a b:Nat}(h:a≠b):@Ne Addr a b:=h
theorem jG {T:Addr}{its:Array Value}{k:Nat}{x:Value}{Q:Unit->Shared->Prop}(hT:s.heap.get? T=some {cls:=.type "tuple",data:=.seq its})(hz:its.size<=64)
 (h:∀h',h'.get? T=some {cls:=.type "tuple",data:=.seq (its.setIfInBounds k x)}->Heap.SameBut T s.heap h'->Q () {s with heap:=h'}) :
 wpAny (model prog w) A (updateSeq T (·.setIfInBounds k x)) Q E s:=by
 refine wpAny_updateSeq hT rfl (h _ ?_ (Heap.SameBut.update ..)) (tqh hz (by decide)) (by rw [Array.size_setIfInBounds];exact tqh hz (by decide))
 rw [tqm _ hT rfl]
 simp [Obj.mapSeq]
theorem d9 {b:Bool}{it a:Addr}{i:Nat}{its:Array Value}{x:Value}{Q:Value->Shared->Prop}(hit:bF b s.heap it a i)(hl:ba b s.heap a its)(hx:its[i]?=some x)
 (hQ:∀h',bF b h' it a (i+1)->Heap.SameBut it s.heap h'->Q x {s with heap:=h'}):wpAny (model prog w) A (Builtin.SmallTypes.nextOf (.ref it)) Q E s:=by
 cases b with
 |true=>exact wpAny_nextOf_list_item hit hl hx hQ
 | false =>
   have hit:s.heap.IsTupleIter it a i:=hit
   obtain ⟨o,ho,hc,hd⟩:=id hit
   obtain ⟨ol,hol,_,nl,hdl⟩:=hl
   unfold Builtin.SmallTypes.nextOf
   refine tqa (wpAny_callSpecial?_slot (name:=Str.ofString "__next__") hit.typeIs F.slot_tuple_iterator_next
    (wpAny_call_entry F.slot_tuple_iterator_next hit.typeIs F.entry_tuple_iterator_next ?_ (F.args_tuple_iterator_next_1 _)))
   show wpAny _ _ (field (.ref it) 0 >>= _) _ _ s
   refine tqa (tqf ho hd (x:=.ref a) rfl ?_)
   show wpAny _ _ (if (Value.ref a==Value.none)=true then _ else _) _ _ s
   rw [if_neg (show ¬ ((Value.ref a==Value.none)=true) from tqj)]
   show wpAny _ _ (field (.ref it) 1 >>= _) _ _ s
   refine tqa (tqf ho hd (x:=.int i 0) rfl ?_)
   show wpAny _ _ (seqItems? (.ref a) >>= _) _ _ s
   refine tqa (wpAny_seqItems hol hdl ?_)
   simp only [Int.toNat_natCast,hx]
   refine tqa (wpAny_setField ho hd (by simp) (tqb ⟨x,rfl,tqb (hQ _ ?_ (Heap.SameBut.update ..))⟩))
   exact ⟨_,tqm _ ho (Obj.isFreed_of_fields (Obj.data_mapFields hd _)),(Obj.cls_mapFields ..).trans hc,by
    rw [Obj.data_mapFields hd];simp [rawInt]⟩
theorem iM {b:Bool}{it a:Addr}{i:Nat}{its:Array Value}{Q:Value->Shared->Prop}(hh:A.handled=none)(hit:bF b s.heap it a i)(hl:ba b s.heap a its)(hx:its[i]?=none)
 (hE:∀h' e,Heap.ExtBut it s.heap h'->(∃o,h'.get? e=some o/\o.cls=.type "StopIteration")->E (.ref e) {s with heap:=h'}):wpAny (model prog w) A (Builtin.SmallTypes.nextOf (.ref it)) Q E s:=by
 cases b with
 |true=>exact wpAny_nextOf_list_end hh hit hl hx hE
 | false =>
   have hit:s.heap.IsTupleIter it a i:=hit
   obtain ⟨o,ho,hc,hd⟩:=id hit
   obtain ⟨ol,hol,_,nl,hdl⟩:=hl
   unfold Builtin.SmallTypes.nextOf
   refine tqa (wpAny_callSpecial?_slot (name:=Str.ofString "__next__") hit.typeIs F.slot_tuple_iterator_next
    (wpAny_call_entry F.slot_tuple_iterator_next hit.typeIs F.entry_tuple_iterator_next ?_ (F.args_tuple_iterator_next_1 _)))
   show wpAny _ _ (field (.ref it) 0 >>= _) _ _ s
   refine tqa (tqf ho hd (x:=.ref a) rfl ?_)
   show wpAny _ _ (if (Value.ref a==Value.none)=true then _ else _) _ _ s
   rw [if_neg (show ¬ ((Value.ref a==Value.none)=true) from tqj)]
   show wpAny _ _ (field (.ref it) 1 >>= _) _ _ s
   refine tqa (tqf ho hd (x:=.int i 0) rfl ?_)
   show wpAny _ _ (seqItems? (.ref a) >>= _) _ _ s
   refine tqa (wpAny_seqItems hol hdl ?_)
   simp only [Int.toNat_natCast,hx]
   refine tqa (wpAny_rule (tqa (wpAny_setField ho hd (by simp) ?_)))
   show wpAny _ _ (newExc (.type "StopIteration") [] >>= _) _ _ _
   refine tqa ?_
   simp only [newExc,newTuple]
   refine tqa (wpAny_newObj_type ?_ (by size_fits))
   refine tqa (m:=firstArgMember _ _) (wpAny_of_eq (a:=Value.none) (by first|rfl|(simp only [firstArgMember];rfl)) ?_)
   refine wpAny_newObj_type ?_ (by size_fits)
   simp only [raiseNew]
   refine tqa (wpAny_handled ?_)
   first|rw [show A.in1.handled=none from hh]|rw [hh]
   refine tqa (tqb (wpAny_throw ?_))
   exact hE _ _ (((Heap.SameBut.update ..).extBut.push _).push _) ⟨_,tqe _ rfl,rfl⟩
theorem yy {n i:Nat}{a0 a1:Nat}{b0 b1:Bool}{xs0 xs1:Array Value}{x0 x1 u0 u1:Value}{Q:Value->Shared->Prop}(hn:a0<n/\a1<n)
 (hz:IsZip s.heap (n+4) (n+2) (n+3) .none) (hTI:s.heap.get? (n+2)=some {cls:=.type "tuple",data:=.seq #[.ref n,.ref (n+1)]}) (hTO:s.heap.get? (n+3)=some {cls:=.type "tuple",data:=.seq #[u0,u1]})
 (i0:bF b0 s.heap n a0 i) (i1:bF b1 s.heap (n+1) a1 i) (q0:ba b0 s.heap a0 xs0) (q1:ba b1 s.heap a1 xs1)
 (e0:xs0[i]?=some x0) (e1:xs1[i]?=some x1)
 (hQ:∀h',IsZip h' (n+4) (n+2) (n+3) (rawInt s.heap.objs.size)->h'.get? (n+3)=some {cls:=.type "tuple",data:=.seq #[x0,x1]}->bF b0 h' n a0 (i+1)->bF b1 h' (n+1) a1 (i+1)->h'.get? s.heap.objs.size=some {cls:=.type "tuple",data:=.seq #[x0,x1]}->h'.objs.size=s.heap.objs.size+1->
  (∀c o,c∉[n,(n+1),(n+3),(n+4)]->s.heap.get? c=some o->h'.get? c=some o)->Q (.ref s.heap.objs.size) {s with heap:=h'}) :
 wpAny (model prog w) A (Builtin.«zip.__next__» ⟨[.ref (n+4)],[]⟩) (fun fin s'=>∃v,fin=.done (.ret v)/\Q v s') E s:=by
 obtain ⟨l0,l1⟩:=hn
 show wpAny _ _ (field (.ref (n+4)) 2 >>= _) _ _ _
 refine tqa (tqf hz rfl (x:=.bool false) rfl ?_)
 show wpAny _ _ (field (.ref (n+4)) 3 >>= _) _ _ _
 refine tqa (tqf hz rfl (x:=.ref (n+2)) rfl ?_)
 refine tqa (wpAny_seqItems hTI rfl ?_)
 show wpAny _ _ (Builtin.SmallTypes.ownedTupleIsFree (.ref (n+4)) >>= _) _ _ _
 refine tqa ?_
 unfold Builtin.SmallTypes.ownedTupleIsFree
 refine tqa (tqf hz rfl (x:=.none) rfl (tqb ?_))
 simp only [if_true]
 refine tqa (wpAny_rule ?_)
 refine tqa (tqf hz rfl (x:=.ref (n+3)) rfl ?_)
 refine tqa (wpAny_setField_rec hz (by simp) fun h0 hz0 hs0=>?_)
 replace hz0:IsZip h0 (n+4) (n+2) (n+3) .ellipsis:=hz0
 have k0:∀c o,c∉[n,(n+1),(n+3),(n+4)]->s.heap.get? c=some o->h0.get? c=some o:=fun c o hc e=>hs0.extBut _ _ (fun z=>hc (by rw [z];simp)) e
 have hTO0:h0.get? (n+3)=some {cls:=.type "tuple",data:=.seq #[u0,u1]}:=hs0.extBut _ _ (aJ (by omega)) hTO
 have hsz0:h0.objs.size=s.heap.objs.size:=hs0.1
 refine tqa ?_
 simp only [List.zipIdx_cons,List.zipIdx_nil,List.forIn_cons,List.forIn_nil]
 have j0_0:bF b0 h0 n a0 i:=i0.extBut hs0.extBut (aJ (by omega))
 have p0_0:ba b0 h0 a0 xs0:=q0.extBut hs0.extBut (aJ (by omega))
 have j1_0:bF b1 h0 (n+1) a1 i:=i1.extBut hs0.extBut (aJ (by omega))
 have p1_0:ba b1 h0 a1 xs1:=q1.extBut hs0.extBut (aJ (by omega))
 refine tqa (tqa (wpAny_onRaise ?_))
 show wpAny _ _ (Builtin.SmallTypes.nextOf (.ref n) >>= _) _ _ _
 refine tqa (d9 j0_0 p0_0 e0 fun h1 j0_1 hs1=>tqb ?_)
 have hTO1:h1.get? (n+3)=some {cls:=.type "tuple",data:=.seq #[u0,u1]}:=hs1.extBut _ _ (aJ (by omega)) hTO0
 refine tqa (wpAny_seqItems hTO1 rfl ?_)
 refine tqa (jG hTO1 (by simp) fun h2 hTO2 hs2=>?_)
 replace hTO2:h2.get? (n+3)=some {cls:=.type "tuple",data:=.seq #[x0,u1]}:=hTO2
 have hz2:IsZip h2 (n+4) (n+2) (n+3) .ellipsis:=hs2.extBut _ _ (aJ (by omega)) (hs1.extBut _ _ (aJ (by omega)) hz0)
 have k2:∀c o,c∉[n,(n+1),(n+3),(n+4)]->s.heap.get? c=some o->h2.get? c=some o:=fun c o hc e=>hs2.extBut _ _ (fun z=>hc (by rw [z];simp)) (hs1.extBut _ _ (fun z=>hc (by rw [z];simp)) (k0 c o hc e))
 have hsz2:h2.objs.size=s.heap.objs.size:=by rw [hs2.1,hs1.1,hsz0]
 have j0_2:bF b0 h2 n a0 (i+1):=j0_1.extBut hs2.extBut (aJ (by omega))
 have p0_2:ba b0 h2 a0 xs0:=(p0_0.extBut hs1.extBut (aJ (by omega))).extBut hs2.extBut (aJ (by omega))
 have j1_2:bF b1 h2 (n+1) a1 i:=(j1_0.extBut hs1.extBut (aJ (by omega))).extBut hs2.extBut (aJ (by omega))
 have p1_2:ba b1 h2 a1 xs1:=(p1_0.extBut hs1.extBut (aJ (by omega))).extBut hs2.extBut (aJ (by omega))
 refine tqa (wpAny_letGo (tqb ?_))
 refine tqa (tqa (wpAny_onRaise ?_))
 show wpAny _ _ (Builtin.SmallTypes.nextOf (.ref (n+1)) >>= _) _ _ _
 refine tqa (d9 j1_2 p1_2 e1 fun h3 j1_3 hs3=>tqb ?_)
 have hTO3:h3.get? (n+3)=some {cls:=.type "tuple",data:=.seq #[x0,u1]}:=hs3.extBut _ _ (aJ (by omega)) hTO2
 refine tqa (wpAny_seqItems hTO3 rfl ?_)
 refine tqa (jG hTO3 (by simp) fun h4 hTO4 hs4=>?_)
 replace hTO4:h4.get? (n+3)=some {cls:=.type "tuple",data:=.seq #[x0,x1]}:=hTO4
 have hz4:IsZip h4 (n+4) (n+2) (n+3) .ellipsis:=hs4.extBut _ _ (aJ (by omega)) (hs3.extBut _ _ (aJ (by omega)) hz2)
 have k4:∀c o,c∉[n,(n+1),(n+3),(n+4)]->s.heap.get? c=some o->h4.get? c=some o:=fun c o hc e=>hs4.extBut _ _ (fun z=>hc (by rw [z];simp)) (hs3.extBut _ _ (fun z=>hc (by rw [z];simp)) (k2 c o hc e))
 have hsz4:h4.objs.size=s.heap.objs.size:=by rw [hs4.1,hs3.1,hsz2]
 have j0_4:bF b0 h4 n a0 (i+1):=(j0_2.extBut hs3.extBut (aJ (by omega))).extBut hs4.extBut (aJ (by omega))
 have p0_4:ba b0 h4 a0 xs0:=(p0_2.extBut hs3.extBut (aJ (by omega))).extBut hs4.extBut (aJ (by omega))
 have j1_4:bF b1 h4 (n+1) a1 (i+1):=j1_3.extBut hs4.extBut (aJ (by omega))
 have p1_4:ba b1 h4 a1 xs1:=(p1_2.extBut hs3.extBut (aJ (by omega))).extBut hs4.extBut (aJ (by omega))
 refine tqa (wpAny_letGo (tqb (tqb ?_)))
 refine tqa (wpAny_seqItems hTO4 rfl ?_)
 refine tqa (wpAny_newTuple ?_)
 have hzlt:(n+4)<h4.objs.size:=tqd hz4
 show wpAny _ _ (Builtin.SmallTypes.ownedTupleHandOut (.ref (n+4)) (.ref h4.objs.size) >>= _) _ _ _
 refine tqa ?_
 unfold Builtin.SmallTypes.ownedTupleHandOut
 have hz6:IsZip (h4.push {cls:=.type "tuple",data:=.seq #[x0,x1]}) (n+4) (n+2) (n+3) .ellipsis:=tqc _ hz4
 refine tqa (wpAny_setField_rec hz6 (by simp) fun h7 hz7 hs7=>?_)
 replace hz7:IsZip h7 (n+4) (n+2) (n+3) (rawInt h4.objs.size):=hz7
 refine wpAny_setField_rec hz7 (by simp) fun h8 hz8 hs8=>?_
 replace hz8:IsZip h8 (n+4) (n+2) (n+3) (rawInt h4.objs.size):=hz8
 have up:∀c o,c≠(n+4)->h4.get? c=some o->h8.get? c=some o:=fun c o c1 e=>hs8.extBut _ _ c1 (hs7.extBut _ _ c1 (tqc _ e))
 have hT8:h8.get? h4.objs.size=some {cls:=.type "tuple",data:=.seq #[x0,x1]}:=hs8.extBut _ _ (Nat.ne_of_gt hzlt) (hs7.extBut _ _ (Nat.ne_of_gt hzlt) (tqe _ rfl))
 have hzz:h8.objs.size=h4.objs.size+1:=by rw [hs8.1,hs7.1,Heap.size_push]
 rw [hsz4] at hz8 hT8 hzz
 refine tqb ⟨_,rfl,?_⟩
 show Q (.ref h4.objs.size) _
 rw [hsz4]
 exact hQ h8 hz8 (up _ _ (aJ (by omega)) hTO4) (j0_4.at fun o e=>up _ o (aJ (by omega)) e) (j1_4.at fun o e=>up _ o (aJ (by omega)) e) hT8 hzz fun c o hc e=>up c o (fun z=>hc (by rw [z];simp)) (k4 c o hc e)
theorem Aw {n i:Nat}{a0 a1:Nat}{b0 b1:Bool}{xs0 xs1:Array Value}{u0 u1:Value}{Q:Fin->Shared->Prop}(hh:A.handled=none)(hn:a0<n/\a1<n)
 (hz:IsZip s.heap (n+4) (n+2) (n+3) .none) (hTI:s.heap.get? (n+2)=some {cls:=.type "tuple",data:=.seq #[.ref n,.ref (n+1)]}) (hTO:s.heap.get? (n+3)=some {cls:=.type "tuple",data:=.seq #[u0,u1]})
 (i0:bF b0 s.heap n a0 i) (i1:bF b1 s.heap (n+1) a1 i) (q0:ba b0 s.heap a0 xs0) (q1:ba b1 s.heap a1 xs1)
 (hend:xs0[i]?=none\/xs1[i]?=none)
 (hE:∀h' e,(∀c o,c∉[n,(n+1),(n+3),(n+4)]->s.heap.get? c=some o->h'.get? c=some o)->(∃o,h'.get? e=some o/\o.cls=.type "StopIteration")->E (.ref e) {s with heap:=h'}) :
 wpAny (model prog w) A (Builtin.«zip.__next__» ⟨[.ref (n+4)],[]⟩) Q E s:=by
 obtain ⟨l0,l1⟩:=hn
 show wpAny _ _ (field (.ref (n+4)) 2 >>= _) _ _ _
 refine tqa (tqf hz rfl (x:=.bool false) rfl ?_)
 show wpAny _ _ (field (.ref (n+4)) 3 >>= _) _ _ _
 refine tqa (tqf hz rfl (x:=.ref (n+2)) rfl ?_)
 refine tqa (wpAny_seqItems hTI rfl ?_)
 show wpAny _ _ (Builtin.SmallTypes.ownedTupleIsFree (.ref (n+4)) >>= _) _ _ _
 refine tqa ?_
 unfold Builtin.SmallTypes.ownedTupleIsFree
 refine tqa (tqf hz rfl (x:=.none) rfl (tqb ?_))
 simp only [if_true]
 refine tqa (wpAny_rule ?_)
 refine tqa (tqf hz rfl (x:=.ref (n+3)) rfl ?_)
 refine tqa (wpAny_setField_rec hz (by simp) fun h0 hz0 hs0=>?_)
 replace hz0:IsZip h0 (n+4) (n+2) (n+3) .ellipsis:=hz0
 have k0:∀c o,c∉[n,(n+1),(n+3),(n+4)]->s.heap.get? c=some o->h0.get? c=some o:=fun c o hc e=>hs0.extBut _ _ (fun z=>hc (by rw [z];simp)) e
 have hTO0:h0.get? (n+3)=some {cls:=.type "tuple",data:=.seq #[u0,u1]}:=hs0.extBut _ _ (aJ (by omega)) hTO
 refine tqa ?_
 simp only [List.zipIdx_cons,List.zipIdx_nil,List.forIn_cons,List.forIn_nil]
 have j0_0:bF b0 h0 n a0 i:=i0.extBut hs0.extBut (aJ (by omega))
 have p0_0:ba b0 h0 a0 xs0:=q0.extBut hs0.extBut (aJ (by omega))
 have j1_0:bF b1 h0 (n+1) a1 i:=i1.extBut hs0.extBut (aJ (by omega))
 have p1_0:ba b1 h0 a1 xs1:=q1.extBut hs0.extBut (aJ (by omega))
 refine tqa (tqa (wpAny_onRaise ?_))
 show wpAny _ _ (Builtin.SmallTypes.nextOf (.ref n) >>= _) _ _ _
 cases e0:xs0[i]? with
 | none =>
   refine tqa (iM hh j0_0 p0_0 e0 fun h1 e hs1 he=>?_)
   obtain ⟨oe,hoe,hce⟩:=he
   have hz1:IsZip h1 (n+4) (n+2) (n+3) .ellipsis:=hs1 _ _ (aJ (by omega)) hz0
   have hez:e≠(n+4):=fun x=>by subst x;rw [hz1] at hoe;cases hoe;simp at hce
   exact wpAny_setField_rec hz1 (by simp) fun h2 _ hs2=>hE h2 e (fun c o hc x=>hs2.extBut _ _ (fun z=>hc (by rw [z];simp)) (hs1 _ _ (fun z=>hc (by rw [z];simp)) (k0 c o hc x))) ⟨oe,hs2.extBut _ _ hez hoe,hce⟩
 | some x0 =>
   refine tqa (d9 j0_0 p0_0 e0 fun h1 j0_1 hs1=>tqb ?_)
   have hTO1:h1.get? (n+3)=some {cls:=.type "tuple",data:=.seq #[u0,u1]}:=hs1.extBut _ _ (aJ (by omega)) hTO0
   refine tqa (wpAny_seqItems hTO1 rfl ?_)
   refine tqa (jG hTO1 (by simp) fun h2 hTO2 hs2=>?_)
   replace hTO2:h2.get? (n+3)=some {cls:=.type "tuple",data:=.seq #[x0,u1]}:=hTO2
   have hz2:IsZip h2 (n+4) (n+2) (n+3) .ellipsis:=hs2.extBut _ _ (aJ (by omega)) (hs1.extBut _ _ (aJ (by omega)) hz0)
   have k2:∀c o,c∉[n,(n+1),(n+3),(n+4)]->s.heap.get? c=some o->h2.get? c=some o:=fun c o hc e=>hs2.extBut _ _ (fun z=>hc (by rw [z];simp)) (hs1.extBut _ _ (fun z=>hc (by rw [z];simp)) (k0 c o hc e))
   have j1_2:bF b1 h2 (n+1) a1 i:=(j1_0.extBut hs1.extBut (aJ (by omega))).extBut hs2.extBut (aJ (by omega))
   have p1_2:ba b1 h2 a1 xs1:=(p1_0.extBut hs1.extBut (aJ (by omega))).extBut hs2.extBut (aJ (by omega))
   refine tqa (wpAny_letGo (tqb ?_))
   refine tqa (tqa (wpAny_onRaise ?_))
   show wpAny _ _ (Builtin.SmallTypes.nextOf (.ref (n+1)) >>= _) _ _ _
   cases e1:xs1[i]? with
   | none =>
     refine tqa (iM hh j1_2 p1_2 e1 fun h3 e hs3 he=>?_)
     obtain ⟨oe,hoe,hce⟩:=he
     have hz3:IsZip h3 (n+4) (n+2) (n+3) .ellipsis:=hs3 _ _ (aJ (by omega)) hz2
     have hez:e≠(n+4):=fun x=>by subst x;rw [hz3] at hoe;cases hoe;simp at hce
     exact wpAny_setField_rec hz3 (by simp) fun h4 _ hs4=>hE h4 e (fun c o hc x=>hs4.extBut _ _ (fun z=>hc (by rw [z];simp)) (hs3 _ _ (fun z=>hc (by rw [z];simp)) (k2 c o hc x))) ⟨oe,hs4.extBut _ _ hez hoe,hce⟩
   | some x1 =>
     exfalso
     rcases hend with h|h
     ·rw [e0] at h;cases h
     ·rw [e1] at h;cases h
theorem yx {n i:Nat}{a0 a1 a2:Nat}{b0 b1 b2:Bool}{xs0 xs1 xs2:Array Value}{x0 x1 x2 u0 u1 u2:Value}{Q:Value->Shared->Prop}(hn:a0<n/\a1<n/\a2<n)
 (hz:IsZip s.heap (n+5) (n+3) (n+4) .none) (hTI:s.heap.get? (n+3)=some {cls:=.type "tuple",data:=.seq #[.ref n,.ref (n+1),.ref (n+2)]}) (hTO:s.heap.get? (n+4)=some {cls:=.type "tuple",data:=.seq #[u0,u1,u2]})
 (i0:bF b0 s.heap n a0 i) (i1:bF b1 s.heap (n+1) a1 i) (i2:bF b2 s.heap (n+2) a2 i) (q0:ba b0 s.heap a0 xs0) (q1:ba b1 s.heap a1 xs1) (q2:ba b2 s.heap a2 xs2)
 (e0:xs0[i]?=some x0) (e1:xs1[i]?=some x1) (e2:xs2[i]?=some x2)
 (hQ:∀h',IsZip h' (n+5) (n+3) (n+4) (rawInt s.heap.objs.size)->h'.get? (n+4)=some {cls:=.type "tuple",data:=.seq #[x0,x1,x2]}->bF b0 h' n a0 (i+1)->bF b1 h' (n+1) a1 (i+1)->bF b2 h' (n+2) a2 (i+1)->h'.get? s.heap.objs.size=some {cls:=.type "tuple",data:=.seq #[x0,x1,x2]}->h'.objs.size=s.heap.objs.size+1->
  (∀c o,c∉[n,(n+1),(n+2),(n+4),(n+5)]->s.heap.get? c=some o->h'.get? c=some o)->Q (.ref s.heap.objs.size) {s with heap:=h'}) :
 wpAny (model prog w) A (Builtin.«zip.__next__» ⟨[.ref (n+5)],[]⟩) (fun fin s'=>∃v,fin=.done (.ret v)/\Q v s') E s:=by
 obtain ⟨l0,l1,l2⟩:=hn
 show wpAny _ _ (field (.ref (n+5)) 2 >>= _) _ _ _
 refine tqa (tqf hz rfl (x:=.bool false) rfl ?_)
 show wpAny _ _ (field (.ref (n+5)) 3 >>= _) _ _ _
 refine tqa (tqf hz rfl (x:=.ref (n+3)) rfl ?_)
 refine tqa (wpAny_seqItems hTI rfl ?_)
 show wpAny _ _ (Builtin.SmallTypes.ownedTupleIsFree (.ref (n+5)) >>= _) _ _ _
 refine tqa ?_
 unfold Builtin.SmallTypes.ownedTupleIsFree
 refine tqa (tqf hz rfl (x:=.none) rfl (tqb ?_))
 simp only [if_true]
 refine tqa (wpAny_rule ?_)
 refine tqa (tqf hz rfl (x:=.ref (n+4)) rfl ?_)
 refine tqa (wpAny_setField_rec hz (by simp) fun h0 hz0 hs0=>?_)
 replace hz0:IsZip h0 (n+5) (n+3) (n+4) .ellipsis:=hz0
 have k0:∀c o,c∉[n,(n+1),(n+2),(n+4),(n+5)]->s.heap.get? c=some o->h0.get? c=some o:=fun c o hc e=>hs0.extBut _ _ (fun z=>hc (by rw [z];simp)) e
 have hTO0:h0.get? (n+4)=some {cls:=.type "tuple",data:=.seq #[u0,u1,u2]}:=hs0.extBut _ _ (aJ (by omega)) hTO
 have hsz0:h0.objs.size=s.heap.objs.size:=hs0.1
 refine tqa ?_
 simp only [List.zipIdx_cons,List.zipIdx_nil,List.forIn_cons,List.forIn_nil]
 have j0_0:bF b0 h0 n a0 i:=i0.extBut hs0.extBut (aJ (by omega))
 have p0_0:ba b0 h0 a0 xs0:=q0.extBut hs0.extBut (aJ (by omega))
 have j1_0:bF b1 h0 (n+1) a1 i:=i1.extBut hs0.extBut (aJ (by omega))
 have p1_0:ba b1 h0 a1 xs1:=q1.extBut hs0.extBut (aJ (by omega))
 have j2_0:bF b2 h0 (n+2) a2 i:=i2.extBut hs0.extBut (aJ (by omega))
 have p2_0:ba b2 h0 a2 xs2:=q2.extBut hs0.extBut (aJ (by omega))
 refine tqa (tqa (wpAny_onRaise ?_))
 show wpAny _ _ (Builtin.SmallTypes.nextOf (.ref n) >>= _) _ _ _
 refine tqa (d9 j0_0 p0_0 e0 fun h1 j0_1 hs1=>tqb ?_)
 have hTO1:h1.get? (n+4)=some {cls:=.type "tuple",data:=.seq #[u0,u1,u2]}:=hs1.extBut _ _ (aJ (by omega)) hTO0
 refine tqa (wpAny_seqItems hTO1 rfl ?_)
 refine tqa (jG hTO1 (by simp) fun h2 hTO2 hs2=>?_)
 replace hTO2:h2.get? (n+4)=some {cls:=.type "tuple",data:=.seq #[x0,u1,u2]}:=hTO2
 have hz2:IsZip h2 (n+5) (n+3) (n+4) .ellipsis:=hs2.extBut _ _ (aJ (by omega)) (hs1.extBut _ _ (aJ (by omega)) hz0)
 have k2:∀c o,c∉[n,(n+1),(n+2),(n+4),(n+5)]->s.heap.get? c=some o->h2.get? c=some o:=fun c o hc e=>hs2.extBut _ _ (fun z=>hc (by rw [z];simp)) (hs1.extBut _ _ (fun z=>hc (by rw [z];simp)) (k0 c o hc e))
 have hsz2:h2.objs.size=s.heap.objs.size:=by rw [hs2.1,hs1.1,hsz0]
 have j0_2:bF b0 h2 n a0 (i+1):=j0_1.extBut hs2.extBut (aJ (by omega))
 have p0_2:ba b0 h2 a0 xs0:=(p0_0.extBut hs1.extBut (aJ (by omega))).extBut hs2.extBut (aJ (by omega))
 have j1_2:bF b1 h2 (n+1) a1 i:=(j1_0.extBut hs1.extBut (aJ (by omega))).extBut hs2.extBut (aJ (by omega))
 have p1_2:ba b1 h2 a1 xs1:=(p1_0.extBut hs1.extBut (aJ (by omega))).extBut hs2.extBut (aJ (by omega))
 have j2_2:bF b2 h2 (n+2) a2 i:=(j2_0.extBut hs1.extBut (aJ (by omega))).extBut hs2.extBut (aJ (by omega))
 have p2_2:ba b2 h2 a2 xs2:=(p2_0.extBut hs1.extBut (aJ (by omega))).extBut hs2.extBut (aJ (by omega))
 refine tqa (wpAny_letGo (tqb ?_))
 refine tqa (tqa (wpAny_onRaise ?_))
 show wpAny _ _ (Builtin.SmallTypes.nextOf (.ref (n+1)) >>= _) _ _ _
 refine tqa (d9 j1_2 p1_2 e1 fun h3 j1_3 hs3=>tqb ?_)
 have hTO3:h3.get? (n+4)=some {cls:=.type "tuple",data:=.seq #[x0,u1,u2]}:=hs3.extBut _ _ (aJ (by omega)) hTO2
 refine tqa (wpAny_seqItems hTO3 rfl ?_)
 refine tqa (jG hTO3 (by simp) fun h4 hTO4 hs4=>?_)
 replace hTO4:h4.get? (n+4)=some {cls:=.type "tuple",data:=.seq #[x0,x1,u2]}:=hTO4
 have hz4:IsZip h4 (n+5) (n+3) (n+4) .ellipsis:=hs4.extBut _ _ (aJ (by omega)) (hs3.extBut _ _ (aJ (by omega)) hz2)
 have k4:∀c o,c∉[n,(n+1),(n+2),(n+4),(n+5)]->s.heap.get? c=some o->h4.get? c=some o:=fun c o hc e=>hs4.extBut _ _ (fun z=>hc (by rw [z];simp)) (hs3.extBut _ _ (fun z=>hc (by rw [z];simp)) (k2 c o hc e))
 have hsz4:h4.objs.size=s.heap.objs.size:=by rw [hs4.1,hs3.1,hsz2]
 have j0_4:bF b0 h4 n a0 (i+1):=(j0_2.extBut hs3.extBut (aJ (by omega))).extBut hs4.extBut (aJ (by omega))
 have p0_4:ba b0 h4 a0 xs0:=(p0_2.extBut hs3.extBut (aJ (by omega))).extBut hs4.extBut (aJ (by omega))
 have j1_4:bF b1 h4 (n+1) a1 (i+1):=j1_3.extBut hs4.extBut (aJ (by omega))
 have p1_4:ba b1 h4 a1 xs1:=(p1_2.extBut hs3.extBut (aJ (by omega))).extBut hs4.extBut (aJ (by omega))
 have j2_4:bF b2 h4 (n+2) a2 i:=(j2_2.extBut hs3.extBut (aJ (by omega))).extBut hs4.extBut (aJ (by omega))
 have p2_4:ba b2 h4 a2 xs2:=(p2_2.extBut hs3.extBut (aJ (by omega))).extBut hs4.extBut (aJ (by omega))
 refine tqa (wpAny_letGo (tqb ?_))
 refine tqa (tqa (wpAny_onRaise ?_))
 show wpAny _ _ (Builtin.SmallTypes.nextOf (.ref (n+2)) >>= _) _ _ _
 refine tqa (d9 j2_4 p2_4 e2 fun h5 j2_5 hs5=>tqb ?_)
 have hTO5:h5.get? (n+4)=some {cls:=.type "tuple",data:=.seq #[x0,x1,u2]}:=hs5.extBut _ _ (aJ (by omega)) hTO4
 refine tqa (wpAny_seqItems hTO5 rfl ?_)
 refine tqa (jG hTO5 (by simp) fun h6 hTO6 hs6=>?_)
 replace hTO6:h6.get? (n+4)=some {cls:=.type "tuple",data:=.seq #[x0,x1,x2]}:=hTO6
 have hz6:IsZip h6 (n+5) (n+3) (n+4) .ellipsis:=hs6.extBut _ _ (aJ (by omega)) (hs5.extBut _ _ (aJ (by omega)) hz4)
 have k6:∀c o,c∉[n,(n+1),(n+2),(n+4),(n+5)]->s.heap.get? c=some o->h6.get? c=some o:=fun c o hc e=>hs6.extBut _ _ (fun z=>hc (by rw [z];simp)) (hs5.extBut _ _ (fun z=>hc (by rw [z];simp)) (k4 c o hc e))
 have hsz6:h6.objs.size=s.heap.objs.size:=by rw [hs6.1,hs5.1,hsz4]
 have j0_6:bF b0 h6 n a0 (i+1):=(j0_4.extBut hs5.extBut (aJ (by omega))).extBut hs6.extBut (aJ (by omega))
 have p0_6:ba b0 h6 a0 xs0:=(p0_4.extBut hs5.extBut (aJ (by omega))).extBut hs6.extBut (aJ (by omega))
 have j1_6:bF b1 h6 (n+1) a1 (i+1):=(j1_4.extBut hs5.extBut (aJ (by omega))).extBut hs6.extBut (aJ (by omega))
 have p1_6:ba b1 h6 a1 xs1:=(p1_4.extBut hs5.extBut (aJ (by omega))).extBut hs6.extBut (aJ (by omega))
 have j2_6:bF b2 h6 (n+2) a2 (i+1):=j2_5.extBut hs6.extBut (aJ (by omega))
 have p2_6:ba b2 h6 a2 xs2:=(p2_4.extBut hs5.extBut (aJ (by omega))).extBut hs6.extBut (aJ (by omega))
 refine tqa (wpAny_letGo (tqb (tqb ?_)))
 refine tqa (wpAny_seqItems hTO6 rfl ?_)
 refine tqa (wpAny_newTuple ?_)
 have hzlt:(n+5)<h6.objs.size:=tqd hz6
 show wpAny _ _ (Builtin.SmallTypes.ownedTupleHandOut (.ref (n+5)) (.ref h6.objs.size) >>= _) _ _ _
 refine tqa ?_
 unfold Builtin.SmallTypes.ownedTupleHandOut
 have hz6:IsZip (h6.push {cls:=.type "tuple",data:=.seq #[x0,x1,x2]}) (n+5) (n+3) (n+4) .ellipsis:=tqc _ hz6
 refine tqa (wpAny_setField_rec hz6 (by simp) fun h7 hz7 hs7=>?_)
 replace hz7:IsZip h7 (n+5) (n+3) (n+4) (rawInt h6.objs.size):=hz7
 refine wpAny_setField_rec hz7 (by simp) fun h8 hz8 hs8=>?_
 replace hz8:IsZip h8 (n+5) (n+3) (n+4) (rawInt h6.objs.size):=hz8
 have up:∀c o,c≠(n+5)->h6.get? c=some o->h8.get? c=some o:=fun c o c1 e=>hs8.extBut _ _ c1 (hs7.extBut _ _ c1 (tqc _ e))
 have hT8:h8.get? h6.objs.size=some {cls:=.type "tuple",data:=.seq #[x0,x1,x2]}:=hs8.extBut _ _ (Nat.ne_of_gt hzlt) (hs7.extBut _ _ (Nat.ne_of_gt hzlt) (tqe _ rfl))
 have hzz:h8.objs.size=h6.objs.size+1:=by rw [hs8.1,hs7.1,Heap.size_push]
 rw [hsz6] at hz8 hT8 hzz
 refine tqb ⟨_,rfl,?_⟩
 show Q (.ref h6.objs.size) _
 rw [hsz6]
 exact hQ h8 hz8 (up _ _ (aJ (by omega)) hTO6) (j0_6.at fun o e=>up _ o (aJ (by omega)) e) (j1_6.at fun o e=>up _ o (aJ (by omega)) e) (j2_6.at fun o e=>up _ o (aJ (by omega)) e) hT8 hzz fun c o hc e=>up c o (fun z=>hc (by rw [z];simp)) (k6 c o hc e)
theorem Av {n i:Nat}{a0 a1 a2:Nat}{b0 b1 b2:Bool}{xs0 xs1 xs2:Array Value}{u0 u1 u2:Value}{Q:Fin->Shared->Prop}(hh:A.handled=none)(hn:a0<n/\a1<n/\a2<n)
 (hz:IsZip s.heap (n+5) (n+3) (n+4) .none) (hTI:s.heap.get? (n+3)=some {cls:=.type "tuple",data:=.seq #[.ref n,.ref (n+1),.ref (n+2)]}) (hTO:s.heap.get? (n+4)=some {cls:=.type "tuple",data:=.seq #[u0,u1,u2]})
 (i0:bF b0 s.heap n a0 i) (i1:bF b1 s.heap (n+1) a1 i) (i2:bF b2 s.heap (n+2) a2 i) (q0:ba b0 s.heap a0 xs0) (q1:ba b1 s.heap a1 xs1) (q2:ba b2 s.heap a2 xs2)
 (hend:xs0[i]?=none\/xs1[i]?=none\/xs2[i]?=none)
 (hE:∀h' e,(∀c o,c∉[n,(n+1),(n+2),(n+4),(n+5)]->s.heap.get? c=some o->h'.get? c=some o)->(∃o,h'.get? e=some o/\o.cls=.type "StopIteration")->E (.ref e) {s with heap:=h'}) :
 wpAny (model prog w) A (Builtin.«zip.__next__» ⟨[.ref (n+5)],[]⟩) Q E s:=by
 obtain ⟨l0,l1,l2⟩:=hn
 show wpAny _ _ (field (.ref (n+5)) 2 >>= _) _ _ _
 refine tqa (tqf hz rfl (x:=.bool false) rfl ?_)
 show wpAny _ _ (field (.ref (n+5)) 3 >>= _) _ _ _
 refine tqa (tqf hz rfl (x:=.ref (n+3)) rfl ?_)
 refine tqa (wpAny_seqItems hTI rfl ?_)
 show wpAny _ _ (Builtin.SmallTypes.ownedTupleIsFree (.ref (n+5)) >>= _) _ _ _
 refine tqa ?_
 unfold Builtin.SmallTypes.ownedTupleIsFree
 refine tqa (tqf hz rfl (x:=.none) rfl (tqb ?_))
 simp only [if_true]
 refine tqa (wpAny_rule ?_)
 refine tqa (tqf hz rfl (x:=.ref (n+4)) rfl ?_)
 refine tqa (wpAny_setField_rec hz (by simp) fun h0 hz0 hs0=>?_)
 replace hz0:IsZip h0 (n+5) (n+3) (n+4) .ellipsis:=hz0
 have k0:∀c o,c∉[n,(n+1),(n+2),(n+4),(n+5)]->s.heap.get? c=some o->h0.get? c=some o:=fun c o hc e=>hs0.extBut _ _ (fun z=>hc (by rw [z];simp)) e
 have hTO0:h0.get? (n+4)=some {cls:=.type "tuple",data:=.seq #[u0,u1,u2]}:=hs0.extBut _ _ (aJ (by omega)) hTO
 refine tqa ?_
 simp only [List.zipIdx_cons,List.zipIdx_nil,List.forIn_cons,List.forIn_nil]
 have j0_0:bF b0 h0 n a0 i:=i0.extBut hs0.extBut (aJ (by omega))
 have p0_0:ba b0 h0 a0 xs0:=q0.extBut hs0.extBut (aJ (by omega))
 have j1_0:bF b1 h0 (n+1) a1 i:=i1.extBut hs0.extBut (aJ (by omega))
 have p1_0:ba b1 h0 a1 xs1:=q1.extBut hs0.extBut (aJ (by omega))
 have j2_0:bF b2 h0 (n+2) a2 i:=i2.extBut hs0.extBut (aJ (by omega))
 have p2_0:ba b2 h0 a2 xs2:=q2.extBut hs0.extBut (aJ (by omega))
 refine tqa (tqa (wpAny_onRaise ?_))
 show wpAny _ _ (Builtin.SmallTypes.nextOf (.ref n) >>= _) _ _ _
 cases e0:xs0[i]? with
 | none =>
   refine tqa (iM hh j0_0 p0_0 e0 fun h1 e hs1 he=>?_)
   obtain ⟨oe,hoe,hce⟩:=he
   have hz1:IsZip h1 (n+5) (n+3) (n+4) .ellipsis:=hs1 _ _ (aJ (by omega)) hz0
   have hez:e≠(n+5):=fun x=>by subst x;rw [hz1] at hoe;cases hoe;simp at hce
   exact wpAny_setField_rec hz1 (by simp) fun h2 _ hs2=>hE h2 e (fun c o hc x=>hs2.extBut _ _ (fun z=>hc (by rw [z];simp)) (hs1 _ _ (fun z=>hc (by rw [z];simp)) (k0 c o hc x))) ⟨oe,hs2.extBut _ _ hez hoe,hce⟩
 | some x0 =>
   refine tqa (d9 j0_0 p0_0 e0 fun h1 j0_1 hs1=>tqb ?_)
   have hTO1:h1.get? (n+4)=some {cls:=.type "tuple",data:=.seq #[u0,u1,u2]}:=hs1.extBut _ _ (aJ (by omega)) hTO0
   refine tqa (wpAny_seqItems hTO1 rfl ?_)
   refine tqa (jG hTO1 (by simp) fun h2 hTO2 hs2=>?_)
   replace hTO2:h2.get? (n+4)=some {cls:=.type "tuple",data:=.seq #[x0,u1,u2]}:=hTO2
   have hz2:IsZip h2 (n+5) (n+3) (n+4) .ellipsis:=hs2.extBut _ _ (aJ (by omega)) (hs1.extBut _ _ (aJ (by omega)) hz0)
   have k2:∀c o,c∉[n,(n+1),(n+2),(n+4),(n+5)]->s.heap.get? c=some o->h2.get? c=some o:=fun c o hc e=>hs2.extBut _ _ (fun z=>hc (by rw [z];simp)) (hs1.extBut _ _ (fun z=>hc (by rw [z];simp)) (k0 c o hc e))
   have j1_2:bF b1 h2 (n+1) a1 i:=(j1_0.extBut hs1.extBut (aJ (by omega))).extBut hs2.extBut (aJ (by omega))
   have p1_2:ba b1 h2 a1 xs1:=(p1_0.extBut hs1.extBut (aJ (by omega))).extBut hs2.extBut (aJ (by omega))
   have j2_2:bF b2 h2 (n+2) a2 i:=(j2_0.extBut hs1.extBut (aJ (by omega))).extBut hs2.extBut (aJ (by omega))
   have p2_2:ba b2 h2 a2 xs2:=(p2_0.extBut hs1.extBut (aJ (by omega))).extBut hs2.extBut (aJ (by omega))
   refine tqa (wpAny_letGo (tqb ?_))
   refine tqa (tqa (wpAny_onRaise ?_))
   show wpAny _ _ (Builtin.SmallTypes.nextOf (.ref (n+1)) >>= _) _ _ _
   cases e1:xs1[i]? with
   | none =>
     refine tqa (iM hh j1_2 p1_2 e1 fun h3 e hs3 he=>?_)
     obtain ⟨oe,hoe,hce⟩:=he
     have hz3:IsZip h3 (n+5) (n+3) (n+4) .ellipsis:=hs3 _ _ (aJ (by omega)) hz2
     have hez:e≠(n+5):=fun x=>by subst x;rw [hz3] at hoe;cases hoe;simp at hce
     exact wpAny_setField_rec hz3 (by simp) fun h4 _ hs4=>hE h4 e (fun c o hc x=>hs4.extBut _ _ (fun z=>hc (by rw [z];simp)) (hs3 _ _ (fun z=>hc (by rw [z];simp)) (k2 c o hc x))) ⟨oe,hs4.extBut _ _ hez hoe,hce⟩
   | some x1 =>
     refine tqa (d9 j1_2 p1_2 e1 fun h3 j1_3 hs3=>tqb ?_)
     have hTO3:h3.get? (n+4)=some {cls:=.type "tuple",data:=.seq #[x0,u1,u2]}:=hs3.extBut _ _ (aJ (by omega)) hTO2
     refine tqa (wpAny_seqItems hTO3 rfl ?_)
     refine tqa (jG hTO3 (by simp) fun h4 hTO4 hs4=>?_)
     replace hTO4:h4.get? (n+4)=some {cls:=.type "tuple",data:=.seq #[x0,x1,u2]}:=hTO4
     have hz4:IsZip h4 (n+5) (n+3) (n+4) .ellipsis:=hs4.extBut _ _ (aJ (by omega)) (hs3.extBut _ _ (aJ (by omega)) hz2)
     have k4:∀c o,c∉[n,(n+1),(n+2),(n+4),(n+5)]->s.heap.get? c=some o->h4.get? c=some o:=fun c o hc e=>hs4.extBut _ _ (fun z=>hc (by rw [z];simp)) (hs3.extBut _ _ (fun z=>hc (by rw [z];simp)) (k2 c o hc e))
     have j2_4:bF b2 h4 (n+2) a2 i:=(j2_2.extBut hs3.extBut (aJ (by omega))).extBut hs4.extBut (aJ (by omega))
     have p2_4:ba b2 h4 a2 xs2:=(p2_2.extBut hs3.extBut (aJ (by omega))).extBut hs4.extBut (aJ (by omega))
     refine tqa (wpAny_letGo (tqb ?_))
     refine tqa (tqa (wpAny_onRaise ?_))
     show wpAny _ _ (Builtin.SmallTypes.nextOf (.ref (n+2)) >>= _) _ _ _
     cases e2:xs2[i]? with
     | none =>
       refine tqa (iM hh j2_4 p2_4 e2 fun h5 e hs5 he=>?_)
       obtain ⟨oe,hoe,hce⟩:=he
       have hz5:IsZip h5 (n+5) (n+3) (n+4) .ellipsis:=hs5 _ _ (aJ (by omega)) hz4
       have hez:e≠(n+5):=fun x=>by subst x;rw [hz5] at hoe;cases hoe;simp at hce
       exact wpAny_setField_rec hz5 (by simp) fun h6 _ hs6=>hE h6 e (fun c o hc x=>hs6.extBut _ _ (fun z=>hc (by rw [z];simp)) (hs5 _ _ (fun z=>hc (by rw [z];simp)) (k4 c o hc x))) ⟨oe,hs6.extBut _ _ hez hoe,hce⟩
     | some x2 =>
       exfalso
       rcases hend with h|h|h
       ·rw [e0] at h;cases h
       ·rw [e1] at h;cases h
       ·rw [e2] at h;cases h
end
end LD
namespace LD
open PySem PySem.Spec PyProof.Rows L2
def i8 (K:PySem.W.Frag)(H:Hp):Bool->Addr->List V->Prop
 |true,a,xs=>dg K H a xs
 |false,a,xs=>d8 K H a xs
def fe:D->Bool
 |.tup _=>false
 |_=>true
def dS:D->Bool
 |.tup _=>true
 |.lst _=>true
 |.frz _=>true
 |.cell _=>true
 |_=>false
theorem fk {X:Cx}{pins:List (Addr×Obj)}{σ:L2.St}{H:Hp}{s:Shared}{b:Bool}{a:Addr}{xs:List V}(I:Inv X pins σ H s)(h:i8 X.K H b a xs):∃its:List Value,Vals xs its/\ba b s.heap a its.toArray:=by
 cases b with
 |true=>obtain ⟨its,r,p,_⟩:=I.list h;exact ⟨its,r,p.isList⟩
 |false=>obtain ⟨its,r,p,_⟩:=I.tuple h;exact ⟨its,r,p⟩
theorem kC {X:Cx}{pins:List (Addr×Obj)}{σ:L2.St}{H:Hp}{s:Shared}{b:Bool}{a:Addr}{xs ys:List V}(I:Inv X pins σ H s)(h:i8 X.K H b a xs)(h':i8 X.K H b a ys):xs=ys:=by
 cases b with
 |true=>exact I.list_inj h h'
 |false=>exact I.tuple_inj h h'
theorem jj {fa:Fa}{X:Cx}{μ:Mu}{H:Hp}{M:Mem}{d:D}{a:Addr}{ds:List D}(hM:RelM fa X.K μ H M)(h:Rep fa X.K μ H d (.ref a))(e:cm M d=some ds):∃vs,i8 X.K H (fe d) a vs/\aX fa X.K μ H ds vs:=by
 cases d with
 |tup xs=>cases e;obtain ⟨a',vs,e,s,r⟩:=h;cases e;exact ⟨vs,s,r⟩
 |lst xs=>obtain ⟨a',vs,e',s,r⟩:=cf hM h (show gi M (.lst xs)=some ds from e);cases e';exact ⟨vs,s,r⟩
 |frz xs=>obtain ⟨a',vs,e',s,r⟩:=cf hM h (show gi M (.frz xs)=some ds from e);cases e';exact ⟨vs,s,r⟩
 |cell k=>obtain ⟨a',vs,e',s,r⟩:=cf hM h (show gi M (.cell k)=some ds from e);cases e';exact ⟨vs,s,r⟩
 |_=>cases e
theorem kB {fa:Fa}{X:Cx}{pins:List (Addr×Obj)}{σ:L2.St}{μ:Mu}{H:Hp}{s:Shared}{M:Mem}{d:D}{v:V}(I:Inv X pins σ H s)(hM:RelM fa X.K μ H M)(h:Rep fa X.K μ H d v)(e:dS d=true):∃(a:Nat) (its:Array Value),v=.ref a/\ba (fe d) s.heap a its:=by
 have key:∀ds,cm M d=some ds->∃(a:Nat) (its:Array Value),v=.ref a/\ba (fe d) s.heap a its:=fun ds z=>by
  obtain ⟨a,vs,rfl,_,_⟩:=kJ hM h z
  obtain ⟨vs,s1,_⟩:=jj hM h z
  obtain ⟨its,_,p⟩:=fk I s1
  exact ⟨a,its.toArray,rfl,p⟩
 cases d with
 |tup xs=>exact key xs rfl
 |lst xs=>exact key xs rfl
 |frz xs=>exact key xs rfl
 | cell k =>
   obtain ⟨a,e,hk⟩:=id h
   obtain ⟨ds,_,z,_⟩:=hM.mu_lt hk
   exact key ds z
 |_=>cases e
theorem ba.lt {b:Bool}{h:Heap}{a:Addr}{its:Array Value}(x:ba b h a its):a<h.objs.size:=by
 cases b<;>(obtain ⟨o,ho,r⟩:=x;exact tqd ho)
theorem ba.push {b:Bool}{h:Heap}{a:Addr}{its:Array Value}(x:ba b h a its)(ob:Obj):ba b (h.push ob) a its:=by
 cases b<;>(obtain ⟨o,ho,r⟩:=x;exact ⟨o,tqc _ ho,r⟩)
def mH (b:Bool)(a:Addr):Obj:={cls:=.type (if b then "list_iterator" else "tuple_iterator"),data:=.fields #[.ref a,.int 0 0]}
theorem bF.new {b:Bool}{h:Heap}{it a:Addr}(e:h.get? it=some (mH b a)):bF b h it a 0:=by
 cases b<;>exact ⟨_,e,rfl,rfl⟩
theorem iJ {prog:Program}{w:World}{A:Around}{E:Value->Shared->Prop}{s:Shared}{b:Bool}{a:Addr}{its:Array Value}{Q:Value->Shared->Prop}(h:ba b s.heap a its)(hQ:Q (.ref s.heap.objs.size) {s with heap:=s.heap.push (mH b a)}):wpAny (model prog w) A (pyIter (.ref a)) Q E s:=by
 cases b with
 |true=>exact wpAny_pyIter_list h hQ
 |false=>exact wpAny_pyIter_tuple h hQ
def IE (K:PySem.W.Frag)(b0:Bool)(a0:Nat)(b1:Bool)(a1:Nat):It:=
 ⟨fun i H => (∃ xs x, i8 K H b0 a0 xs /\ xs[i]? = some x) /\ (∃ xs x, i8 K H b1 a1 xs /\ xs[i]? = some x),
  fun i H v H'=>∃p x0 x1,H p=none/\v=.ref p/\H'=upd H p (.tup [x0,x1])/\(∀xs,i8 K H b0 a0 xs->xs[i]?=some x0)/\(∀xs,i8 K H b1 a1 xs->xs[i]?=some x1),
  fun i H=>∃xs0 xs1,i8 K H b0 a0 xs0/\i8 K H b1 a1 xs1/\(xs0.length<=i\/xs1.length<=i)⟩
def n4 (n:Nat)(b0:Bool)(a0:Nat)(b1:Bool)(a1:Nat)(i:Nat)(h:Heap)(f0:Value):Prop:=IsZip h (n+4) (n+2) (n+3) f0/\h.get? (n+2)=some {cls:=.type "tuple",data:=.seq #[.ref n,.ref (n+1)]}/\(∃u0 u1,h.get? (n+3)=some {cls:=.type "tuple",data:=.seq #[u0,u1]})/\bF b0 h n a0 i/\bF b1 h (n+1) a1 i
theorem n4.keep {n i:Nat}{a0 a1:Nat}{b0 b1:Bool}{h h':Heap}{f0:Value}(x:n4 n b0 a0 b1 a1 i h f0)(k:∀b∈[(n+4),n,(n+1),(n+2),(n+3)],∀o,h.get? b=some o->h'.get? b=some o):n4 n b0 a0 b1 a1 i h' f0:=by
 obtain ⟨h1,h2,⟨u0,u1,h3⟩,j0,j1⟩:=x
 exact ⟨k _ (by simp) _ h1,k _ (by simp) _ h2,⟨u0,u1,k _ (by simp) _ h3⟩,j0.at fun o e=>k _ (by simp) o e,j1.at fun o e=>k _ (by simp) o e⟩
theorem yM {P:Program}{w:World}{K:PySem.W.Frag}{elts:List Expr}{kk:Nat}{pos:Pos}(n:Nat)(b0:Bool)(a0:Nat)(b1:Bool)(a1:Nat)(hn:a0<n/\a1<n) :
 Turn P w K (.Tuple elts kk pos) (IE K b0 a0 b1 a1) [(n+4),n,(n+1),(n+2),(n+3)] (n+4) (fun i h=>n4 n b0 a0 b1 a1 i h .none) where
 mem:=by simp
 obj:=fun i h ⟨h1,h2,⟨u0,u1,h3⟩,j0,j1⟩ b hb=>by
  simp only [List.mem_cons,List.not_mem_nil,or_false] at hb
  rcases hb with z|z|z|z|z
  ·subst z;exact ⟨_,h1,fun v z=>by cases z⟩
  ·subst z;exact j0.obj
  ·subst z;exact j1.obj
  ·subst z;exact ⟨_,h2,fun v z=>by cases z⟩
  ·subst z;exact ⟨_,h3,fun v z=>by cases z⟩
 keep:=fun i h h' st k=>st.keep k
 item:=by
  intro X hP hw hK hc i pins s σ H E I hf st hg
  subst hP hw hK
  obtain ⟨⟨xs0,x0,hq0,hx0⟩,⟨xs1,x1,hq1,hx1⟩⟩:=hg
  obtain ⟨h1,h2,⟨u0,u1,h3⟩,j0,j1⟩:=st
  obtain ⟨its0,rv0,p0⟩:=fk I hq0
  obtain ⟨w0,hw0,rw0⟩:=rv0.get hx0
  obtain ⟨its1,rv1,p1⟩:=fk I hq1
  obtain ⟨w1,hw1,rw1⟩:=rv1.get hx1
  have hT:s.TypeIs (.ref (n+4)) "zip":=⟨_,h1,rfl⟩
  unfold pyNext
  refine tqa (wpAny_attempt (wpAny_callSpecial?_slot (name:=Str.ofString "__next__") hT F.slot_zip_next
   (wpAny_call_entry F.slot_zip_next hT F.entry_zip_next
    (yy (E:=_) hn h1 h2 h3 j0 j1 p0 p1 (x0:=w0) (by simpa using hw0) (x1:=w1) (by simpa using hw1) fun h4 z1 z2 g0 g1 hTT hsz hk=>tqb ⟨_,rfl,?_⟩) (F.args_zip_next_1 _))))
  have hT0:H s.heap.objs.size=none:=I.hok.fresh (tqg _)
  have zlt:(n+4)<s.heap.objs.size:=tqd h1
  refine wpAny_letOwnedTupleGo_zip (s:={s with heap:=h4}) z1 fun h5 hz5 hs5=>?_
  have hT5:h5.get? s.heap.objs.size=some {cls:=.type "tuple",data:=.seq #[w0,w1]}:=(hs5.2 _ (Nat.ne_of_gt zlt)).trans hTT
  refine ⟨.ref s.heap.objs.size,upd H s.heap.objs.size (.tup [x0,x1]),mZ (s:=s) (t':=s.toks) I hf (fun b o hb q=>(hs5.2 b (fun z=>hb (by rw [z];simp))).trans (hk b o (fun z=>hb (by simp only [List.mem_cons,List.not_mem_nil,or_false] at z ⊢;rcases z with z|z|z|z<;>simp [z])) q)) (tqg _) ⟨?_,[w0,w1],.cons rw0 (.cons rw1 (.nil)),⟨_,hT5,rfl,_,rfl⟩⟩,rfl,
   ⟨_,x0,x1,hT0,rfl,rfl,fun ys hy=>by rw [kC I hy hq0];exact hx0,fun ys hy=>by rw [kC I hy hq1];exact hx1⟩,⟨hz5,hs5.extBut _ _ (aJ (by omega)) (hk _ _ (by simp) h2),⟨w0,w1,hs5.extBut _ _ (aJ (by omega)) z2⟩,g0.extBut hs5.extBut (aJ (by omega)),g1.extBut hs5.extBut (aJ (by omega))⟩,fun b hb=>?_⟩
  ·show 2<=sizeLine;decide
  ·have:b<s.heap.objs.size:=by
    have zl:(n+4)<s.heap.objs.size:=zlt
    simp only [List.mem_cons,List.not_mem_nil,or_false] at hb
    rcases hb with z|z|z|z|z<;>(rw [z];(first|exact zl|exact Nat.lt_trans (by omega) zl))
   rw [aP (tqk this)];exact (hf b hb).1
 done:=by
  intro X hP hw hK hc i pins s σ H E I hf st hg
  subst hP hw hK
  obtain ⟨xs0,xs1,hq0,hq1,hend⟩:=hg
  obtain ⟨h1,h2,⟨u0,u1,h3⟩,j0,j1⟩:=st
  obtain ⟨its0,rv0,p0⟩:=fk I hq0
  have hl0:=rv0.length
  obtain ⟨its1,rv1,p1⟩:=fk I hq1
  have hl1:=rv1.length
  have hT:s.TypeIs (.ref (n+4)) "zip":=⟨_,h1,rfl⟩
  unfold pyNext
  refine tqa (wpAny_attempt (wpAny_callSpecial?_slot (name:=Str.ofString "__next__") hT F.slot_zip_next
   (wpAny_call_entry F.slot_zip_next hT F.entry_zip_next (Aw (I.ok.hd hc) hn h1 h2 h3 j0 j1 p0 p1 (by
    rcases hend with z|z
    ·exact .inl (by simp;omega)
    ·exact .inr (by simp;omega)
    ) fun h' e hk he=>?_) (F.args_zip_next_1 _))))
  obtain ⟨o,ho,hcl⟩:=he
  refine tqa (wpAny_isInstance (T:="StopIteration") (b:=true) ⟨o,ho,hcl⟩ isSubtype_stop ?_)
  exact tqb ⟨rfl,qR (s:=s) I hf (t':=s.toks) fun b o hb q=>hk b o (fun z=>hb (by simp only [List.mem_cons,List.not_mem_nil,or_false] at z ⊢;rcases z with z|z|z|z<;>simp [z])) q⟩
 self:=fun _ _ _ _ _ st h=>wpAny_pyIter_zip st.1 h
abbrev pT (h:Heap)(b0:Bool)(a0:Nat)(b1:Bool)(a1:Nat):Heap:=h.push (mH b0 a0)
abbrev tS (h:Heap)(b0:Bool)(a0:Nat)(b1:Bool)(a1:Nat):Heap:=(pT h b0 a0 b1 a1).push (mH b1 a1)
abbrev tR (h:Heap)(b0:Bool)(a0:Nat)(b1:Bool)(a1:Nat):Heap:=(tS h b0 a0 b1 a1).push {cls:=.type "tuple",data:=.seq #[.ref h.objs.size,.ref (pT h b0 a0 b1 a1).objs.size]}
abbrev tQ (h:Heap)(b0:Bool)(a0:Nat)(b1:Bool)(a1:Nat):Heap:=(tR h b0 a0 b1 a1).push {cls:=.type "tuple",data:=.seq #[.none,.none]}
abbrev mi (h:Heap)(b0:Bool)(a0:Nat)(b1:Bool)(a1:Nat):Heap:=(tQ h b0 a0 b1 a1).push {cls:=.type "zip",data:=.fields #[.none,.bool false,.bool false,.ref (tS h b0 a0 b1 a1).objs.size,.ref (tR h b0 a0 b1 a1).objs.size]}
theorem xM (b0:Bool)(a0:Nat)(b1:Bool)(a1:Nat)(xs0 xs1:Array Value) :
 Meets (Builtin.«zip.__new__» ⟨[.type "zip",.ref a0,.ref a1],[]⟩) (fun _ R s=>ba b0 s.heap a0 xs0/\ba b1 s.heap a1 xs1/\
  R (.ok (.ret (.ref (tQ s.heap b0 a0 b1 a1).objs.size))) {s with heap:=mi s.heap b0 a0 b1 a1}):=
 .of_wp fun prog w A R s h=>by
  obtain ⟨hp,g,d,tk,os⟩:=s;obtain ⟨q0,q1,h⟩:=h
  have hsub:=sub_zip
  have L0:ba b0 (Shared.heap ⟨hp,g,d,tk,os⟩) a0 xs0:=q0
  have L1:ba b1 (Shared.heap ⟨(pT hp b0 a0 b1 a1),g,d,tk,os⟩) a1 xs1:=(q1).push _
  wp_walk using iJ L0,iJ L1
  exact ⟨_,rfl,h⟩
theorem Ao {prog:Program}{w:World}{A:Around}{E:Value->Shared->Prop}{s:Shared}{a0 a1:Nat}{b0 b1:Bool}{xs0 xs1:Array Value}{Q:Value->Shared->Prop}(q0:ba b0 s.heap a0 xs0)(q1:ba b1 s.heap a1 xs1)
 (h:∀h',n4 s.heap.objs.size b0 a0 b1 a1 0 h' .none->(∀c o,s.heap.get? c=some o->h'.get? c=some o)->Q (.ref (s.heap.objs.size+4)) {s with heap:=h'}) :
 wpAny (model prog w) A (call (.type "zip") [.ref a0,.ref a1]) Q E s:=by
 refine callType_new F.called_zip (by decide) (F.typeCall_zip_2 _ _) (F.newCall_zip_2 _ _) (fun obj=>F.args_object_init_3 obj _ _) F.entry_zip_new (xM b0 a0 b1 a1 xs0 xs1) ⟨q0,q1,?_⟩
 have z1:(pT s.heap b0 a0 b1 a1).objs.size=s.heap.objs.size+1:=by rw [Heap.size_push]
 have z2:(tS s.heap b0 a0 b1 a1).objs.size=s.heap.objs.size+2:=by rw [Heap.size_push,z1]
 have z3:(tR s.heap b0 a0 b1 a1).objs.size=s.heap.objs.size+3:=by rw [Heap.size_push,z2]
 have z4:(tQ s.heap b0 a0 b1 a1).objs.size=s.heap.objs.size+4:=by rw [Heap.size_push,z3]
 have z5:(mi s.heap b0 a0 b1 a1).objs.size=s.heap.objs.size+5:=by rw [Heap.size_push,z4]
 have g1:(mi s.heap b0 a0 b1 a1).get? s.heap.objs.size=some _:=tqc _ (tqc _ (tqc _ (tqc _ (tqe _ rfl))))
 have g2:(mi s.heap b0 a0 b1 a1).get? (pT s.heap b0 a0 b1 a1).objs.size=some _:=tqc _ (tqc _ (tqc _ (tqe _ rfl)))
 have g3:(mi s.heap b0 a0 b1 a1).get? (tS s.heap b0 a0 b1 a1).objs.size=some _:=tqc _ (tqc _ (tqe _ rfl))
 have g4:(mi s.heap b0 a0 b1 a1).get? (tR s.heap b0 a0 b1 a1).objs.size=some _:=tqc _ (tqe _ rfl)
 have g5:(mi s.heap b0 a0 b1 a1).get? (tQ s.heap b0 a0 b1 a1).objs.size=some _:=tqe _ rfl
 show _/\_
 rw [z1] at g2
 rw [z2] at g3
 rw [z3] at g4
 rw [z4] at g5
 rw [z1] at g3
 rw [z2,z3] at g5
 rw [z4]
 exact ⟨⟨_,g5,rfl⟩,h _ ⟨g5,g3,⟨_,_,g4⟩,bF.new g1,bF.new g2⟩ fun c o x=>tqc _ (tqc _ (tqc _ (tqc _ (tqc _ (x)))))⟩
def oa (d0 d1:D):Walk:=fun M=>(cm M d0).bind fun y0=>(cm M d1).map fun y1=>jQ y0 y1
def ot (g0 g1:Env->Mem->Res D):Env->Mem->Res Walk:=fun Z M=>(g0 Z M).bind fun d0 M=>(g1 Z M).bind fun d1 M=>if dS d0&&dS d1 then .ok (oa d0 d1) M else .bad
theorem uc:∀(y0 y1:List D) (i:Nat) (d:D),(jQ y0 y1)[i]?=some d↔∃e0 e1,y0[i]?=some e0/\y1[i]?=some e1/\d=.tup [e0,e1]
 |c0::t0,c1::t1,0,d=>by simp [jQ,eq_comm]
 | c0 :: t0, c1 :: t1, i + 1, d => by
   have:=uc t0 t1 i d
   simpa [jQ] using this
 |[],_,i,d=>by simp [jQ]
 |_::_,[],i,d=>by simp [jQ]
theorem ub:∀(y0 y1:List D) (i:Nat),(jQ y0 y1).length<=i->y0.length<=i\/y1.length<=i
 |c0::t0,c1::t1,0,h=>by simp [jQ] at h
 | c0 :: t0, c1 :: t1, i + 1, h => by
   have:=ub t0 t1 i (by simpa [jQ] using h)
   simpa using this
 |[],_,i,h=>by simp
 |_::_,[],i,h=>by simp
theorem yG {fa:Fa}{X:Cx}{μ0:Mu}{H0:Hp}{d0 d1:D}{a0 a1:Nat}(r0:Rep fa X.K μ0 H0 d0 (.ref a0))(r1:Rep fa X.K μ0 H0 d1 (.ref a1)):eD fa X.K μ0 H0 (oa d0 d1) (IE X.K (fe d0) a0 (fe d1) a1):=fun μ H M ds x hM e=>by
 unfold oa at e
 cases s0:cm M d0 with
 |none=>simp [s0] at e
 |some y0=>
 cases s1:cm M d1 with
 |none=>simp [s0,s1] at e
 |some y1=>
 simp only [s0,s1,Option.bind_some,Option.map_some,Option.some.injEq] at e
 subst e
 obtain ⟨v0,q0,l0⟩:=jj hM (Rep.extW x r0) s0
 obtain ⟨v1,q1,l1⟩:=jj hM (Rep.extW x r1) s1
 refine ⟨fun i d hd=>?_,fun i hi=>⟨v0,v1,q0,q1,?_⟩⟩
 ·obtain ⟨e0,e1,h0,h1,rfl⟩:=(uc y0 y1 i d).mp hd
  obtain ⟨w0,hw0,rw0⟩:=l0.get h0
  obtain ⟨w1,hw1,rw1⟩:=l1.get h1
  refine ⟨⟨⟨v0,w0,q0,hw0⟩,⟨v1,w1,q1,hw1⟩⟩,fun y H' ⟨p,x0,x1,hp,ey,eH,t0,t1⟩=>?_⟩
  have z0:=t0 v0 q0
  rw [hw0] at z0;cases z0
  have z1:=t1 v1 q1
  rw [hw1] at z1;cases z1
  subst eH ey
  exact ⟨Ext.alloc hM hp,hM.alloc hp,p,[w0,w1],rfl,.inl (.inl cb),⟨w0,[w1],rfl,rw0.ext (Ext.alloc hM hp),⟨w1,[],rfl,rw1.ext (Ext.alloc hM hp),rfl⟩⟩⟩
 ·rcases ub y0 y1 i hi with z|z
  ·exact .inl (by rw [l0.length];exact z)
  ·exact .inr (by rw [l1.length];exact z)
theorem EK {fa:Fa}{X:Cx}{elts:List Expr}{kk:Nat}{tp p pos:Pos}{e0 e1:Expr}{g0 g1:Env->Mem->Res D}(h0:DE fa X e0 g0)(h1:DE fa X e1 g1)(hg:Gl X "zip")(hm:X.mg "zip"=none)
 (hs0:starEach [e0,e1] X.env=[(false,eval e0 X.env),(false,eval e1 X.env)]) (hs1:starEach [e1] X.env=[(false,eval e1 X.env)]):DI fa X (.Tuple elts kk tp) (.Call (.Name "zip" p) [e0,e1] [] pos) (ot g0 g1):=by
 intro pins s σ H R I ⟨μ,Z,M,hE,hM,h⟩
 obtain ⟨d0,M0,c0,t0⟩:=a9 h
 obtain ⟨d1,M1,c1,t1⟩:=a9 t0
 split at t1
 ·next hsq=>
  simp only [Bool.and_eq_true] at hsq
  obtain ⟨hq0,hq1⟩:=hsq
  refine Call_ (iN I hg hm boot_zip (PyProof.Rows.callWith_type1 (bp (cp h0 (cp h1 eh hs1) (by rw [hs0,hs1]) pos pins s σ H (fun vs H1=>∃v0 v1 μ1,vs=[v0,v1]/\Ext μ H μ1 H1/\RelM fa X.K μ1 H1 M1/\Rep fa X.K μ1 H1 d0 v0/\Rep fa X.K μ1 H1 d1 v1) I ?_) fun us s1 ⟨vs,H1,I1,r1,v0,v1,μ1,ev,x1,m1,rv0,rv1⟩=>?_) (by rw [hs0,hs1]) (by rw [hs1];rfl)))
  ·refine ⟨μ,Z,M,hE,hM,?_⟩
   rw [c0]
   intro v0 H1 μ1 x1 m1 r0
   refine ⟨μ1,Z,M0,(hE.ext x1),m1,?_⟩
   rw [c1]
   intro v1 H2 μ2 x2 m2 r1
   exact ⟨v0,v1,μ2,rfl,(x1.trans x2),m2,(r0.ext x2),r1⟩
  subst ev
  obtain ⟨a0,its0,rfl,z0⟩:=kB I1 m1 rv0 hq0
  obtain ⟨a1,its1,rfl,z1⟩:=kB I1 m1 rv1 hq1
  cases r1 with
  | cons y0 r1 =>
    cases r1 with
    | cons y1 r1 =>
      cases r1
      obtain rfl:=y0
      obtain rfl:=y1
      refine Ao z0 z1 fun h1 za hk=>?_
      have I2:Inv X pins σ H1 {s1 with heap:=h1}:=I1.kept (t':=s1.toks) hk
      refine wpAny_pyIter_zip (s:={s1 with heap:=h1}) za.1 ?_
      refine ⟨s1.heap.objs.size+4,[s1.heap.objs.size+4,s1.heap.objs.size,s1.heap.objs.size+1,s1.heap.objs.size+2,s1.heap.objs.size+3],_,_,H1,rfl,I2,yM s1.heap.objs.size (fe d0) a0 (fe d1) a1 ⟨z0.lt,z1.lt⟩,za,fun b hb=>?_,t1 _ H1 μ1 x1 m1 (yG rv0 rv1)⟩
      have hb:s1.heap.objs.size<=b:=by
       simp only [List.mem_cons,List.not_mem_nil,or_false] at hb
       rcases hb with z|z|z|z|z<;>(rw [z];first|exact tqg _|exact Nat.le_add_right _ _)
      exact I1.fpOk hb (I1.hok.fresh hb)
 ·exact t1.elim
def ID (K:PySem.W.Frag)(b0:Bool)(a0:Nat)(b1:Bool)(a1:Nat)(b2:Bool)(a2:Nat):It:=
 ⟨fun i H => (∃ xs x, i8 K H b0 a0 xs /\ xs[i]? = some x) /\ (∃ xs x, i8 K H b1 a1 xs /\ xs[i]? = some x) /\ (∃ xs x, i8 K H b2 a2 xs /\ xs[i]? = some x),
  fun i H v H'=>∃p x0 x1 x2,H p=none/\v=.ref p/\H'=upd H p (.tup [x0,x1,x2])/\(∀xs,i8 K H b0 a0 xs->xs[i]?=some x0)/\(∀xs,i8 K H b1 a1 xs->xs[i]?=some x1)/\(∀xs,i8 K H b2 a2 xs->xs[i]?=some x2),
  fun i H=>∃xs0 xs1 xs2,i8 K H b0 a0 xs0/\i8 K H b1 a1 xs1/\i8 K H b2 a2 xs2/\(xs0.length<=i\/xs1.length<=i\/xs2.length<=i)⟩
def nZ (n:Nat)(b0:Bool)(a0:Nat)(b1:Bool)(a1:Nat)(b2:Bool)(a2:Nat)(i:Nat)(h:Heap)(f0:Value):Prop:=IsZip h (n+5) (n+3) (n+4) f0/\h.get? (n+3)=some {cls:=.type "tuple",data:=.seq #[.ref n,.ref (n+1),.ref (n+2)]}/\(∃u0 u1 u2,h.get? (n+4)=some {cls:=.type "tuple",data:=.seq #[u0,u1,u2]})/\bF b0 h n a0 i/\bF b1 h (n+1) a1 i/\bF b2 h (n+2) a2 i
theorem nZ.keep {n i:Nat}{a0 a1 a2:Nat}{b0 b1 b2:Bool}{h h':Heap}{f0:Value}(x:nZ n b0 a0 b1 a1 b2 a2 i h f0)(k:∀b∈[(n+5),n,(n+1),(n+2),(n+3),(n+4)],∀o,h.get? b=some o->h'.get? b=some o):nZ n b0 a0 b1 a1 b2 a2 i h' f0:=by
 obtain ⟨h1,h2,⟨u0,u1,u2,h3⟩,j0,j1,j2⟩:=x
 exact ⟨k _ (by simp) _ h1,k _ (by simp) _ h2,⟨u0,u1,u2,k _ (by simp) _ h3⟩,j0.at fun o e=>k _ (by simp) o e,j1.at fun o e=>k _ (by simp) o e,j2.at fun o e=>k _ (by simp) o e⟩
theorem yL {P:Program}{w:World}{K:PySem.W.Frag}{elts:List Expr}{kk:Nat}{pos:Pos}(n:Nat)(b0:Bool)(a0:Nat)(b1:Bool)(a1:Nat)(b2:Bool)(a2:Nat)(hn:a0<n/\a1<n/\a2<n) :
 Turn P w K (.Tuple elts kk pos) (ID K b0 a0 b1 a1 b2 a2) [(n+5),n,(n+1),(n+2),(n+3),(n+4)] (n+5) (fun i h=>nZ n b0 a0 b1 a1 b2 a2 i h .none) where
 mem:=by simp
 obj:=fun i h ⟨h1,h2,⟨u0,u1,u2,h3⟩,j0,j1,j2⟩ b hb=>by
  simp only [List.mem_cons,List.not_mem_nil,or_false] at hb
  rcases hb with z|z|z|z|z|z
  ·subst z;exact ⟨_,h1,fun v z=>by cases z⟩
  ·subst z;exact j0.obj
  ·subst z;exact j1.obj
  ·subst z;exact j2.obj
  ·subst z;exact ⟨_,h2,fun v z=>by cases z⟩
  ·subst z;exact ⟨_,h3,fun v z=>by cases z⟩
 keep:=fun i h h' st k=>st.keep k
 item:=by
  intro X hP hw hK hc i pins s σ H E I hf st hg
  subst hP hw hK
  obtain ⟨⟨xs0,x0,hq0,hx0⟩,⟨xs1,x1,hq1,hx1⟩,⟨xs2,x2,hq2,hx2⟩⟩:=hg
  obtain ⟨h1,h2,⟨u0,u1,u2,h3⟩,j0,j1,j2⟩:=st
  obtain ⟨its0,rv0,p0⟩:=fk I hq0
  obtain ⟨w0,hw0,rw0⟩:=rv0.get hx0
  obtain ⟨its1,rv1,p1⟩:=fk I hq1
  obtain ⟨w1,hw1,rw1⟩:=rv1.get hx1
  obtain ⟨its2,rv2,p2⟩:=fk I hq2
  obtain ⟨w2,hw2,rw2⟩:=rv2.get hx2
  have hT:s.TypeIs (.ref (n+5)) "zip":=⟨_,h1,rfl⟩
  unfold pyNext
  refine tqa (wpAny_attempt (wpAny_callSpecial?_slot (name:=Str.ofString "__next__") hT F.slot_zip_next
   (wpAny_call_entry F.slot_zip_next hT F.entry_zip_next
    (yx (E:=_) hn h1 h2 h3 j0 j1 j2 p0 p1 p2 (x0:=w0) (by simpa using hw0) (x1:=w1) (by simpa using hw1) (x2:=w2) (by simpa using hw2) fun h4 z1 z2 g0 g1 g2 hTT hsz hk=>tqb ⟨_,rfl,?_⟩) (F.args_zip_next_1 _))))
  have hT0:H s.heap.objs.size=none:=I.hok.fresh (tqg _)
  have zlt:(n+5)<s.heap.objs.size:=tqd h1
  refine wpAny_letOwnedTupleGo_zip (s:={s with heap:=h4}) z1 fun h5 hz5 hs5=>?_
  have hT5:h5.get? s.heap.objs.size=some {cls:=.type "tuple",data:=.seq #[w0,w1,w2]}:=(hs5.2 _ (Nat.ne_of_gt zlt)).trans hTT
  refine ⟨.ref s.heap.objs.size,upd H s.heap.objs.size (.tup [x0,x1,x2]),mZ (s:=s) (t':=s.toks) I hf (fun b o hb q=>(hs5.2 b (fun z=>hb (by rw [z];simp))).trans (hk b o (fun z=>hb (by simp only [List.mem_cons,List.not_mem_nil,or_false] at z ⊢;rcases z with z|z|z|z|z<;>simp [z])) q)) (tqg _) ⟨?_,[w0,w1,w2],.cons rw0 (.cons rw1 (.cons rw2 (.nil))),⟨_,hT5,rfl,_,rfl⟩⟩,rfl,
   ⟨_,x0,x1,x2,hT0,rfl,rfl,fun ys hy=>by rw [kC I hy hq0];exact hx0,fun ys hy=>by rw [kC I hy hq1];exact hx1,fun ys hy=>by rw [kC I hy hq2];exact hx2⟩,⟨hz5,hs5.extBut _ _ (aJ (by omega)) (hk _ _ (by simp) h2),⟨w0,w1,w2,hs5.extBut _ _ (aJ (by omega)) z2⟩,g0.extBut hs5.extBut (aJ (by omega)),g1.extBut hs5.extBut (aJ (by omega)),g2.extBut hs5.extBut (aJ (by omega))⟩,fun b hb=>?_⟩
  ·show 3<=sizeLine;decide
  ·have:b<s.heap.objs.size:=by
    have zl:(n+5)<s.heap.objs.size:=zlt
    simp only [List.mem_cons,List.not_mem_nil,or_false] at hb
    rcases hb with z|z|z|z|z|z<;>(rw [z];(first|exact zl|exact Nat.lt_trans (by omega) zl))
   rw [aP (tqk this)];exact (hf b hb).1
 done:=by
  intro X hP hw hK hc i pins s σ H E I hf st hg
  subst hP hw hK
  obtain ⟨xs0,xs1,xs2,hq0,hq1,hq2,hend⟩:=hg
  obtain ⟨h1,h2,⟨u0,u1,u2,h3⟩,j0,j1,j2⟩:=st
  obtain ⟨its0,rv0,p0⟩:=fk I hq0
  have hl0:=rv0.length
  obtain ⟨its1,rv1,p1⟩:=fk I hq1
  have hl1:=rv1.length
  obtain ⟨its2,rv2,p2⟩:=fk I hq2
  have hl2:=rv2.length
  have hT:s.TypeIs (.ref (n+5)) "zip":=⟨_,h1,rfl⟩
  unfold pyNext
  refine tqa (wpAny_attempt (wpAny_callSpecial?_slot (name:=Str.ofString "__next__") hT F.slot_zip_next
   (wpAny_call_entry F.slot_zip_next hT F.entry_zip_next (Av (I.ok.hd hc) hn h1 h2 h3 j0 j1 j2 p0 p1 p2 (by
    rcases hend with z|z|z
    ·exact .inl (by simp;omega)
    ·exact (.inr∘.inl) (by simp;omega)
    ·exact (.inr∘.inr) (by simp;omega)
    ) fun h' e hk he=>?_) (F.args_zip_next_1 _))))
  obtain ⟨o,ho,hcl⟩:=he
  refine tqa (wpAny_isInstance (T:="StopIteration") (b:=true) ⟨o,ho,hcl⟩ isSubtype_stop ?_)
  exact tqb ⟨rfl,qR (s:=s) I hf (t':=s.toks) fun b o hb q=>hk b o (fun z=>hb (by simp only [List.mem_cons,List.not_mem_nil,or_false] at z ⊢;rcases z with z|z|z|z|z<;>simp [z])) q⟩
 self:=fun _ _ _ _ _ st h=>wpAny_pyIter_zip st.1 h
abbrev pS (h:Heap)(b0:Bool)(a0:Nat)(b1:Bool)(a1:Nat)(b2:Bool)(a2:Nat):Heap:=h.push (mH b0 a0)
abbrev pR (h:Heap)(b0:Bool)(a0:Nat)(b1:Bool)(a1:Nat)(b2:Bool)(a2:Nat):Heap:=(pS h b0 a0 b1 a1 b2 a2).push (mH b1 a1)
abbrev tP (h:Heap)(b0:Bool)(a0:Nat)(b1:Bool)(a1:Nat)(b2:Bool)(a2:Nat):Heap:=(pR h b0 a0 b1 a1 b2 a2).push (mH b2 a2)
abbrev tO (h:Heap)(b0:Bool)(a0:Nat)(b1:Bool)(a1:Nat)(b2:Bool)(a2:Nat):Heap:=(tP h b0 a0 b1 a1 b2 a2).push {cls:=.type "tuple",data:=.seq #[.ref h.objs.size,.ref (pS h b0 a0 b1 a1 b2 a2).objs.size,.ref (pR h b0 a0 b1 a1 b2 a2).objs.size]}
abbrev tN (h:Heap)(b0:Bool)(a0:Nat)(b1:Bool)(a1:Nat)(b2:Bool)(a2:Nat):Heap:=(tO h b0 a0 b1 a1 b2 a2).push {cls:=.type "tuple",data:=.seq #[.none,.none,.none]}
abbrev ll (h:Heap)(b0:Bool)(a0:Nat)(b1:Bool)(a1:Nat)(b2:Bool)(a2:Nat):Heap:=(tN h b0 a0 b1 a1 b2 a2).push {cls:=.type "zip",data:=.fields #[.none,.bool false,.bool false,.ref (tP h b0 a0 b1 a1 b2 a2).objs.size,.ref (tO h b0 a0 b1 a1 b2 a2).objs.size]}
theorem xK (b0:Bool)(a0:Nat)(b1:Bool)(a1:Nat)(b2:Bool)(a2:Nat)(xs0 xs1 xs2:Array Value) :
 Meets (Builtin.«zip.__new__» ⟨[.type "zip",.ref a0,.ref a1,.ref a2],[]⟩) (fun _ R s=>ba b0 s.heap a0 xs0/\ba b1 s.heap a1 xs1/\ba b2 s.heap a2 xs2/\
  R (.ok (.ret (.ref (tN s.heap b0 a0 b1 a1 b2 a2).objs.size))) {s with heap:=ll s.heap b0 a0 b1 a1 b2 a2}):=
 .of_wp fun prog w A R s h=>by
  obtain ⟨hp,g,d,tk,os⟩:=s;obtain ⟨q0,q1,q2,h⟩:=h
  have hsub:=sub_zip
  have L0:ba b0 (Shared.heap ⟨hp,g,d,tk,os⟩) a0 xs0:=q0
  have L1:ba b1 (Shared.heap ⟨(pS hp b0 a0 b1 a1 b2 a2),g,d,tk,os⟩) a1 xs1:=(q1).push _
  have L2:ba b2 (Shared.heap ⟨(pR hp b0 a0 b1 a1 b2 a2),g,d,tk,os⟩) a2 xs2:=((q2).push _).push _
  wp_walk using iJ L0,iJ L1,iJ L2
  exact ⟨_,rfl,h⟩
theorem qQ (a b c:Value):checkTypeCall "zip" ⟨[a,b,c],[]⟩=pure ():=by kernel_rfl
theorem tK (a b c:Value):checkBuiltinCall "zip.__new__" ⟨[.type "zip",a,b,c],[]⟩=pure ():=by kernel_rfl
theorem nY (a b c d:Value):argsOk "object.__init__" ⟨[a,b,c,d],[]⟩:=by
 unfold argsOk;rw [signature?_of (id:="object.__init__") (n:=['_','_','t','i','n','i','_','_']) (o:=['t','c','e','j','b','o']) (by kernel_rfl) F.owner_object];kernel_rfl
theorem An {prog:Program}{w:World}{A:Around}{E:Value->Shared->Prop}{s:Shared}{a0 a1 a2:Nat}{b0 b1 b2:Bool}{xs0 xs1 xs2:Array Value}{Q:Value->Shared->Prop}(q0:ba b0 s.heap a0 xs0)(q1:ba b1 s.heap a1 xs1)(q2:ba b2 s.heap a2 xs2)
 (h:∀h',nZ s.heap.objs.size b0 a0 b1 a1 b2 a2 0 h' .none->(∀c o,s.heap.get? c=some o->h'.get? c=some o)->Q (.ref (s.heap.objs.size+5)) {s with heap:=h'}) :
 wpAny (model prog w) A (call (.type "zip") [.ref a0,.ref a1,.ref a2]) Q E s:=by
 refine callType_new F.called_zip (by decide) (qQ _ _ _) (tK _ _ _) (fun obj=>nY obj _ _ _) F.entry_zip_new (xK b0 a0 b1 a1 b2 a2 xs0 xs1 xs2) ⟨q0,q1,q2,?_⟩
 have z1:(pS s.heap b0 a0 b1 a1 b2 a2).objs.size=s.heap.objs.size+1:=by rw [Heap.size_push]
 have z2:(pR s.heap b0 a0 b1 a1 b2 a2).objs.size=s.heap.objs.size+2:=by rw [Heap.size_push,z1]
 have z3:(tP s.heap b0 a0 b1 a1 b2 a2).objs.size=s.heap.objs.size+3:=by rw [Heap.size_push,z2]
 have z4:(tO s.heap b0 a0 b1 a1 b2 a2).objs.size=s.heap.objs.size+4:=by rw [Heap.size_push,z3]
 have z5:(tN s.heap b0 a0 b1 a1 b2 a2).objs.size=s.heap.objs.size+5:=by rw [Heap.size_push,z4]
 have z6:(ll s.heap b0 a0 b1 a1 b2 a2).objs.size=s.heap.objs.size+6:=by rw [Heap.size_push,z5]
 have g1:(ll s.heap b0 a0 b1 a1 b2 a2).get? s.heap.objs.size=some _:=tqc _ (tqc _ (tqc _ (tqc _ (tqc _ (tqe _ rfl)))))
 have g2:(ll s.heap b0 a0 b1 a1 b2 a2).get? (pS s.heap b0 a0 b1 a1 b2 a2).objs.size=some _:=tqc _ (tqc _ (tqc _ (tqc _ (tqe _ rfl))))
 have g3:(ll s.heap b0 a0 b1 a1 b2 a2).get? (pR s.heap b0 a0 b1 a1 b2 a2).objs.size=some _:=tqc _ (tqc _ (tqc _ (tqe _ rfl)))
 have g4:(ll s.heap b0 a0 b1 a1 b2 a2).get? (tP s.heap b0 a0 b1 a1 b2 a2).objs.size=some _:=tqc _ (tqc _ (tqe _ rfl))
 have g5:(ll s.heap b0 a0 b1 a1 b2 a2).get? (tO s.heap b0 a0 b1 a1 b2 a2).objs.size=some _:=tqc _ (tqe _ rfl)
 have g6:(ll s.heap b0 a0 b1 a1 b2 a2).get? (tN s.heap b0 a0 b1 a1 b2 a2).objs.size=some _:=tqe _ rfl
 show _/\_
 rw [z1] at g2
 rw [z2] at g3
 rw [z3] at g4
 rw [z4] at g5
 rw [z5] at g6
 rw [z1,z2] at g4
 rw [z3,z4] at g6
 rw [z5]
 exact ⟨⟨_,g6,rfl⟩,h _ ⟨g6,g4,⟨_,_,_,g5⟩,bF.new g1,bF.new g2,bF.new g3⟩ fun c o x=>tqc _ (tqc _ (tqc _ (tqc _ (tqc _ (tqc _ (x))))))⟩
def n9 (d0 d1 d2:D):Walk:=fun M=>(cm M d0).bind fun y0=>(cm M d1).bind fun y1=>(cm M d2).map fun y2=>gG y0 y1 y2
def qB (g0 g1 g2:Env->Mem->Res D):Env->Mem->Res Walk:=fun Z M=>(g0 Z M).bind fun d0 M=>(g1 Z M).bind fun d1 M=>(g2 Z M).bind fun d2 M=>if dS d0&&dS d1&&dS d2 then .ok (n9 d0 d1 d2) M else .bad
theorem si:∀(y0 y1 y2:List D) (i:Nat) (d:D),(gG y0 y1 y2)[i]?=some d↔∃e0 e1 e2,y0[i]?=some e0/\y1[i]?=some e1/\y2[i]?=some e2/\d=.tup [e0,e1,e2]
 |c0::t0,c1::t1,c2::t2,0,d=>by simp [gG,eq_comm]
 | c0 :: t0, c1 :: t1, c2 :: t2, i + 1, d => by
   have:=si t0 t1 t2 i d
   simpa [gG] using this
 |[],_,_,i,d=>by simp [gG]
 |_::_,[],_,i,d=>by simp [gG]
 |_::_,_::_,[],i,d=>by simp [gG]
theorem sg:∀(y0 y1 y2:List D) (i:Nat),(gG y0 y1 y2).length<=i->y0.length<=i\/y1.length<=i\/y2.length<=i
 |c0::t0,c1::t1,c2::t2,0,h=>by simp [gG] at h
 | c0 :: t0, c1 :: t1, c2 :: t2, i + 1, h => by
   have:=sg t0 t1 t2 i (by simpa [gG] using h)
   simpa using this
 |[],_,_,i,h=>by simp
 |_::_,[],_,i,h=>by simp
 |_::_,_::_,[],i,h=>by simp
theorem yF {fa:Fa}{X:Cx}{μ0:Mu}{H0:Hp}{d0 d1 d2:D}{a0 a1 a2:Nat}(r0:Rep fa X.K μ0 H0 d0 (.ref a0))(r1:Rep fa X.K μ0 H0 d1 (.ref a1))(r2:Rep fa X.K μ0 H0 d2 (.ref a2)):eD fa X.K μ0 H0 (n9 d0 d1 d2) (ID X.K (fe d0) a0 (fe d1) a1 (fe d2) a2):=fun μ H M ds x hM e=>by
 unfold n9 at e
 cases s0:cm M d0 with
 |none=>simp [s0] at e
 |some y0=>
 cases s1:cm M d1 with
 |none=>simp [s0,s1] at e
 |some y1=>
 cases s2:cm M d2 with
 |none=>simp [s0,s1,s2] at e
 |some y2=>
 simp only [s0,s1,s2,Option.bind_some,Option.map_some,Option.some.injEq] at e
 subst e
 obtain ⟨v0,q0,l0⟩:=jj hM (Rep.extW x r0) s0
 obtain ⟨v1,q1,l1⟩:=jj hM (Rep.extW x r1) s1
 obtain ⟨v2,q2,l2⟩:=jj hM (Rep.extW x r2) s2
 refine ⟨fun i d hd=>?_,fun i hi=>⟨v0,v1,v2,q0,q1,q2,?_⟩⟩
 ·obtain ⟨e0,e1,e2,h0,h1,h2,rfl⟩:=(si y0 y1 y2 i d).mp hd
  obtain ⟨w0,hw0,rw0⟩:=l0.get h0
  obtain ⟨w1,hw1,rw1⟩:=l1.get h1
  obtain ⟨w2,hw2,rw2⟩:=l2.get h2
  refine ⟨⟨⟨v0,w0,q0,hw0⟩,⟨v1,w1,q1,hw1⟩,⟨v2,w2,q2,hw2⟩⟩,fun y H' ⟨p,x0,x1,x2,hp,ey,eH,t0,t1,t2⟩=>?_⟩
  have z0:=t0 v0 q0
  rw [hw0] at z0;cases z0
  have z1:=t1 v1 q1
  rw [hw1] at z1;cases z1
  have z2:=t2 v2 q2
  rw [hw2] at z2;cases z2
  subst eH ey
  exact ⟨Ext.alloc hM hp,hM.alloc hp,p,[w0,w1,w2],rfl,.inl (.inl cb),⟨w0,[w1,w2],rfl,rw0.ext (Ext.alloc hM hp),⟨w1,[w2],rfl,rw1.ext (Ext.alloc hM hp),⟨w2,[],rfl,rw2.ext (Ext.alloc hM hp),rfl⟩⟩⟩⟩
 ·rcases sg y0 y1 y2 i hi with z|z|z
  ·exact .inl (by rw [l0.length];exact z)
  ·exact (.inr∘.inl) (by rw [l1.length];exact z)
  ·exact (.inr∘.inr) (by rw [l2.length];exact z)
theorem EJ {fa:Fa}{X:Cx}{elts:List Expr}{kk:Nat}{tp p pos:Pos}{e0 e1 e2:Expr}{g0 g1 g2:Env->Mem->Res D}(h0:DE fa X e0 g0)(h1:DE fa X e1 g1)(h2:DE fa X e2 g2)(hg:Gl X "zip")(hm:X.mg "zip"=none)
 (hs0:starEach [e0,e1,e2] X.env=[(false,eval e0 X.env),(false,eval e1 X.env),(false,eval e2 X.env)]) (hs1:starEach [e1,e2] X.env=[(false,eval e1 X.env),(false,eval e2 X.env)]) (hs2:starEach [e2] X.env=[(false,eval e2 X.env)]):DI fa X (.Tuple elts kk tp) (.Call (.Name "zip" p) [e0,e1,e2] [] pos) (qB g0 g1 g2):=by
 intro pins s σ H R I ⟨μ,Z,M,hE,hM,h⟩
 obtain ⟨d0,M0,c0,t0⟩:=a9 h
 obtain ⟨d1,M1,c1,t1⟩:=a9 t0
 obtain ⟨d2,M2,c2,t2⟩:=a9 t1
 split at t2
 ·next hsq=>
  simp only [Bool.and_eq_true,and_assoc] at hsq
  obtain ⟨hq0,hq1,hq2⟩:=hsq
  refine Call_ (iN I hg hm boot_zip (PyProof.Rows.callWith_type1 (bp (cp h0 (cp h1 (cp h2 eh hs2) (by rw [hs1,hs2])) (by rw [hs0,hs1]) pos pins s σ H (fun vs H1=>∃v0 v1 v2 μ1,vs=[v0,v1,v2]/\Ext μ H μ1 H1/\RelM fa X.K μ1 H1 M2/\Rep fa X.K μ1 H1 d0 v0/\Rep fa X.K μ1 H1 d1 v1/\Rep fa X.K μ1 H1 d2 v2) I ?_) fun us s1 ⟨vs,H1,I1,r1,v0,v1,v2,μ1,ev,x1,m1,rv0,rv1,rv2⟩=>?_) (by rw [hs0,hs1]) (by rw [hs1];rfl)))
  ·refine ⟨μ,Z,M,hE,hM,?_⟩
   rw [c0]
   intro v0 H1 μ1 x1 m1 r0
   refine ⟨μ1,Z,M0,(hE.ext x1),m1,?_⟩
   rw [c1]
   intro v1 H2 μ2 x2 m2 r1
   refine ⟨μ2,Z,M1,((hE.ext x1).ext x2),m2,?_⟩
   rw [c2]
   intro v2 H3 μ3 x3 m3 r2
   exact ⟨v0,v1,v2,μ3,rfl,((x1.trans x2).trans x3),m3,((r0.ext x2).ext x3),(r1.ext x3),r2⟩
  subst ev
  obtain ⟨a0,its0,rfl,z0⟩:=kB I1 m1 rv0 hq0
  obtain ⟨a1,its1,rfl,z1⟩:=kB I1 m1 rv1 hq1
  obtain ⟨a2,its2,rfl,z2⟩:=kB I1 m1 rv2 hq2
  cases r1 with
  | cons y0 r1 =>
    cases r1 with
    | cons y1 r1 =>
      cases r1 with
      | cons y2 r1 =>
        cases r1
        obtain rfl:=y0
        obtain rfl:=y1
        obtain rfl:=y2
        refine An z0 z1 z2 fun h1 za hk=>?_
        have I2:Inv X pins σ H1 {s1 with heap:=h1}:=I1.kept (t':=s1.toks) hk
        refine wpAny_pyIter_zip (s:={s1 with heap:=h1}) za.1 ?_
        refine ⟨s1.heap.objs.size+5,[s1.heap.objs.size+5,s1.heap.objs.size,s1.heap.objs.size+1,s1.heap.objs.size+2,s1.heap.objs.size+3,s1.heap.objs.size+4],_,_,H1,rfl,I2,yL s1.heap.objs.size (fe d0) a0 (fe d1) a1 (fe d2) a2 ⟨z0.lt,z1.lt,z2.lt⟩,za,fun b hb=>?_,t2 _ H1 μ1 x1 m1 (yF rv0 rv1 rv2)⟩
        have hb:s1.heap.objs.size<=b:=by
         simp only [List.mem_cons,List.not_mem_nil,or_false] at hb
         rcases hb with z|z|z|z|z|z<;>(rw [z];first|exact tqg _|exact Nat.le_add_right _ _)
        exact I1.fpOk hb (I1.hok.fresh hb)
 ·exact t2.elim
end LD
namespace LD
open PySem PySem.Spec PyProof.Rows L2
abbrev GE:=Env->Mem->Res D
abbrev GT:=Env->Mem->Res Bool
abbrev GA:=Env->Mem->Res (List D)
abbrev GW:=Env->Mem->Res Walk
abbrev GS:=Env->Mem->Res Fl
abbrev GB:=Env->List D->Mem->Res (List D)
abbrev Call:=Nat->List D->Mem->Res D
def ag (i:Nat):GE:=fun Z M=>cZ M (Z[i]?.getD none)
def gC (d:D):GE:=fun _ M=>.ok d M
def aH (m:Bool)(o:pb)(a b:GE):GE:=fun Z M=>(a Z M).bind fun x M=>(b Z M).bind fun y M=>fv m o x y M
def a7 (o:ir)(a b:GE):GE:=fun Z M=>(a Z M).bind fun x M=>(b Z M).bind fun y M=>(cZ M (bP o x y M)).bind fun b M=>.ok (.bl b) M
def lN (o o':ir)(a b c:GE):GE:=fun Z M=>(a Z M).bind fun x M=>(b Z M).bind fun y M=>(cZ M (bP o x y M)).bind fun k M=>
 if k then (c Z M).bind fun z M=>(cZ M (bP o' y z M)).bind fun b M=>.ok (.bl b) M else .ok (.bl false) M
def iS (a:GE):GE:=fun Z M=>(a Z M).bind fun x M=>match x with|.int i=>.ok (.int (-i)) M|_=>.bad
def eY (a b:GE):GE:=fun Z M=>(a Z M).bind fun x M=>match x with|.bl true=>b Z M|.bl false=>.ok (.bl false) M|_=>.bad
def HN (a:GE):GE:=fun Z M=>(a Z M).bind fun x M=>match x with|.bl k=>.ok (.bl (!k)) M|_=>.bad
def gV (t:GT)(a b:GE):GE:=fun Z M=>(t Z M).bind fun k M=>if k then a Z M else b Z M
def a8 (a b:GE):GE:=fun Z M=>(a Z M).bind fun x M=>(b Z M).bind fun y M=>cZ M (fq x y M)
def dH (m hl hh:Bool)(a lo hi:GE):GE:=fun Z M=>(a Z M).bind fun x M=>(lo Z M).bind fun l M=>(hi Z M).bind fun h M=>if cw hl l&&cw hh h then eG m x l h M else .bad
def au:GA:=fun _ M=>.ok [] M
def af (a:GE)(s:GA):GA:=fun Z M=>(a Z M).bind fun x M=>(s Z M).bind fun xs M=>.ok (x::xs) M
def cU (s:GA):GE:=fun Z M=>(s Z M).bind mE
def bB (m:Bool)(s:GA):GE:=fun Z M=>(s Z M).bind (bT m)
def az (f:Nat)(c:Call)(s:GA):GE:=fun Z M=>(s Z M).bind fun ds M=>c f ds M
def nO (i:Nat)(c:Call)(s:GA):GE:=fun Z M=>match Z[i]?.getD none with|some (.fn f)=>(s Z M).bind fun ds M=>c f ds M|_=>.bad
def bG (f:vG)(s:GA):GE:=fun Z M=>(s Z M).bind fun ds M=>gv f ds M
def bY (t:Ty)(a:GE):GE:=fun Z M=>(a Z M).bind fun x M=>(cZ M (bX t x)).bind fun b M=>.ok (.bl b) M
def aL (a:GE):GT:=fun Z M=>(a Z M).bind fun x M=>cZ M (lI M x)
def je (a b:GT):GT:=fun Z M=>(a Z M).bind fun k M=>if k then b Z M else .ok false M
def eK (a b:GT):GT:=fun Z M=>(a Z M).bind fun k M=>if k then .ok true M else b Z M
def bZ (a:GT):GT:=fun Z M=>(a Z M).bind fun k M=>.ok (!k) M
def aU (t:dv)(a:GE):GS:=fun Z M=>(a Z M).bind fun x M=>(cZ M (cX t x Z)).bind fun ρ1 M=>.ok (.next ρ1) M
def jl (a b d:GE):GS:=fun Z M=>(d Z M).bind fun z M=>(a Z M).bind fun x M=>(b Z M).bind fun y M=>match x,y with
 | .cell k, .int n => match M[k]? with
   | some ds => match bV ds.length n with
     |some j=>.ok (.next Z) (M.set k (ds.set j z))
     |none=>.bad
   |none=>.bad
 |_,_=>.bad
def pB (a d:GE):GS:=fun Z M=>(a Z M).bind fun x M=>(d Z M).bind fun z M=>match x with
 | .cell k => match M[k]? with
   |some ds=>if ds.length<sz then .ok (.next Z) (M.set k (ds++[z])) else .bad
   |none=>.bad
 |_=>.bad
def aW (a:GE):GS:=fun Z M=>(a Z M).bind fun x M=>.ok (.ret x) M
def Ja:GS:=fun _ M=>.ok (.ret .non) M
def Jb:GS:=fun Z M=>.ok (.next Z) M
def KZ:GS:=fun _ _=>.bad
def bf (c:GT)(a b:GS):GS:=fun Z M=>(c Z M).bind fun k M=>if k then a Z M else b Z M
def jm (t:dv)(w:GW)(b:GS):GS:=fun Z M=>(w Z M).bind fun w M=>dP (iw t b) w (.next Z) M
def aw:GS:=fun Z M=>.ok (.next Z) M
noncomputable def ai (a b:GS):GS:=fun Z M=>(a Z M).bind fun fl M=>match fl with
 |.next Z=>b Z M
 |fl=>.ok fl M
def notStar:Expr->Bool
 |.Starred _ _=>false
 |_=>true
theorem cI {a:Expr}{es:List Expr}{env:PySem.Env}(h:notStar a=true):starEach (a::es) env=(false,eval a env)::starEach es env:=by
 cases a<;>first|rfl|cases h
theorem dX {pos:Pos}{env:PySem.Env}:∀{es:List Expr},es.all notStar=true->(backTo pos (starEach es env)).any (·.1)=false
 |[],_=>rfl
 | a :: es, h => by
   simp only [List.all_cons,Bool.and_eq_true] at h
   have ih:=dX (pos:=pos) (env:=env) h.2
   rw [cI h.1]
   simpa [backTo] using ih
section
variable {fa:Fa}{X:Cx}{a b d:Expr}{ga gb gd:GE}{ta tb:GT}{pos p:Pos}{es:List Expr}{gs:GA}{n:Nat}
theorem FG {x:Str}{i:Int}{t:Tok}(hg:Gl X x)(hm:X.mg x=some (.int i t))(hd:(x==("__debug__":Str))=false):DE fa X (.Name x pos) (gC (.int i)):=l8 (v:=.int i) (lU hg hm ⟨t,rfl⟩ hd) fun _ _=>rfl
theorem uJ (m:Bool){i:Nat}{y:Str}{py spos:Pos}{elt tg iter:Expr}{ifs:List Expr}{rest:List Comprehension}{scope:Scope}{own bn:List Str}{t:dv}{W:List Nat}{body:Addr->PySem.Env->Sem Unit}{gw:GW}{g:GB}
 (S:fA X own bn scope) (hcalm:X.calm=true) (hi:DI fa X tg iter gw) (B:Block fa X own bn scope tg t W body g) (hT:qM X elt tg iter ifs rest scope pos body) (hW:∀i∈W,i∉slots t) (hn:∀i∈slots t++W,i<own.length)
 (hs:∀x,foldedSetIterable iter X.env x=pure x) (hN:X.N.Nodup) (hy:X.N[i]?=some y) (hl:X.env.scope.names.lookup y=some .local)
 (hsw:swapsWith (.ListComp elt (⟨tg,iter,ifs,0⟩::rest) scope pos) (some (.Name y py)) spos.line X.env=pure true) :
 DS fa X (.Assign [.Name y py] (.ListComp elt (⟨tg,iter,ifs,0⟩::rest) scope pos) spos) (aU (.one i) (cG m own.length t gw g)):=yk m S hcalm hi B hT hW hn hs hN hy hl hsw
end
structure Df where
 params:Nat
 slots:Nat
 body:Call->GS
def L6:Fl->Mem->Res D
 |.ret d,M=>.ok d M
 |.next _,M=>.ok .non M
 |.exc x _,M=>.err x M
def L5:Res Fl->Res D
 |.ok fl M=>L6 fl M
 |_=>.bad
def ij (c:Call)(d:Df)(ds:List D)(M:Mem):Res D:=if ds.length=d.params then L5 (d.body c (ds.map some++List.replicate (d.slots-ds.length) none) M) else .bad
def av (P:Nat->Option Df):Nat->Call
 |0,_,_,_=>.bad
 | n + 1, f, ds, M => match P f with
   |none=>.bad
   |some d=>ij (av P n) d ds M
structure ua (fa:Fa) (P:Program) (w:World) (K:PySem.W.Frag) (mg:Str->Option Value) (base:Heap) (f:Nat) (d:Df):Prop where
 ex:∃(ad:Addr) (fd:FuncData) (ps N:List Str) (st:Stmt) (x qual:Str),fa f=some ad/\oX K x qual st ad fd/\Binds K fd ps []/\gP N ps (aS st)/\d.params=ps.length/\d.slots=N.length/\
  ∀(call:Call) (n:Nat) (cdv:Value) (A:Around) (outer:List PySem.Env) (s:Shared) (H:Hp) (E:XK),(∀f,g9 fa P w K mg base n f (call f))->cy (n+4) (A.deeper (envOfC qual (aS st) s.heap.objs.size ad cdv))->
   g8 fa (fX (iu P w) P w K mg base N qual (aS st) ad cdv A outer s H E) (dq st) (d.body call)
theorem yT {fa:Fa}{K:PySem.W.Frag}{μ:Mu}{H:Hp}{N:List Str}{ds:List D}{vs:List V}(h:aX fa K μ H ds vs):bK fa K μ H (L2.start N vs) (ds.map some++List.replicate (N.length-ds.length) none):=by
 have hl:=h.length
 refine ⟨by unfold L2.start;simp [hl],fun i d e=>?_⟩
 by_cases hi:i<ds.length
 ·rw [List.getElem?_append_left (by simpa using hi),List.getElem?_map] at e
  cases e1:ds[i]? with
  |none=>rw [e1] at e;cases e
  | some d' =>
    rw [e1] at e
    cases e
    obtain ⟨v,hv,rv⟩:=h.get e1
    refine ⟨v,?_,rv⟩
    unfold L2.start
    rw [List.getElem?_append_left (by simp;omega),List.getElem?_map,hv]
    rfl
 ·rw [List.getElem?_append_right (by simp;omega),List.getElem?_replicate] at e
  split at e<;>cases e
theorem rQ {P:Program}{w:World}{K:PySem.W.Frag}{mg:Str->Option Value}{base:Heap}{x qual:Str}{st:Stmt}{f:Addr}{fd:FuncData}{N ps:List Str}{k:Nat}{sp:Sp}(F:oX K x qual st f fd)(S:gP N ps (aS st))(len:∀vs H Q E,sp vs H Q E->vs.length=ps.length)
 (hbody:∀(cdv:Value) (A:Around) (outer:List PySem.Env) (s:Shared) (H:Hp) (vs:List V) (Q:VK) (E:XK),cy k (A.deeper (envOfC qual (aS st) s.heap.objs.size f cdv))->sp vs H Q E->
  ∃t,n5 (fX (iu P w) P w K mg base N qual (aS st) f cdv A outer s H E) (dq st) t/\t {nx:=fun _ H'=>Q .non H',rt:=Q} (start N vs) H):lR P w K mg base (iu P w) (k+1) f fd ps sp:=by
 obtain ⟨oc,od,kV,doc,pm,an,cdv,ct,osl,rfl,lk,hcd⟩:=F.ex
 exact JD lk hcd S len fun A outer s H vs Q E hr hsp=>hbody cdv A outer s H vs Q E hr hsp
theorem sY {fa:Fa}{P:Program}{w:World}{K:PySem.W.Frag}{mg:Str->Option Value}{base:Heap}{N:List Str}{qual:Str}{scope:Scope}{f:Addr}{cd:Value}{A:Around}{outer:List PySem.Env}{s:Shared}{H:Hp}{E:XK}{Q:VK}{d:Df}{c:Call}{ds:List D}{vs:List V}{μ:Mu}{M:Mem}
 (hs:d.slots=N.length) (hM:RelM fa K μ H M) (hr:aX fa K μ H ds vs) (hq:kQ (ij c d ds M) (bH fa K μ H Q) (yu fa K μ H E)):tF fa (fX (iu P w) P w K mg base N qual scope f cd A outer s H E) (d.body c) {nx:=fun _ H'=>Q .non H',rt:=Q} (start N vs) H:=by
 unfold ij at hq
 split at hq
 ·refine ⟨μ,_,M,yT hr,hM,?_⟩
  rw [<- hs]
  cases e1:d.body c (ds.map some++List.replicate (d.slots-ds.length) none) M with
  | ok fl M1 =>
    rw [e1] at hq
    cases fl with
    | next ρ' =>
      have q1:bH fa K μ H Q .non M1:=hq
      exact fun σ' H' μ' x' e' m'=>q1 .non H' μ' x' m' rfl
    |ret d=>exact hq
    | exc x ρ' =>
      have q1:yu fa K μ H E x M1:=hq
      exact fun pins σ' H' μ' s' a C dx c p I y _ m ex hc hn fl=>BQ I fl (q1 C dx c p H' μ' y m ex hc hn)
  |err=>rw [e1] at hq;exact hq.elim
  |bad=>rw [e1] at hq;exact hq.elim
 ·exact hq.elim
theorem vB {fa:Fa}{P:Program}{w:World}{K:PySem.W.Frag}{mg:Str->Option Value}{base:Heap}{Pg:Nat->Option Df}(h:∀f d,Pg f=some d->ua fa P w K mg base f d):∀(n f:Nat),g9 fa P w K mg base n f (av Pg n f)
 |0,f=>.inl fun _ _=>rfl
 | n + 1, f => by
   have ih:=vB h n
   cases e:Pg f with
   |none=>exact .inl fun ds M=>by show (match Pg f with|none=>Res.bad|some d=>ij (av Pg n) d ds M)=Res.bad;rw [e]
   | some d =>
     have eq:∀ds M,av Pg (n+1) f ds M=ij (av Pg n) d ds M:=fun ds M=>by show (match Pg f with|none=>Res.bad|some d=>ij (av Pg n) d ds M)=_;rw [e]
     obtain ⟨ad,fd,ps,N,st,x,qual,h1,F,hb,S,hp,hs,hbody⟩:=(h f d e).ex
     refine .inr ⟨ad,fd,ps,h1,F.kp,hb,fun ds M hl=>?_,?_⟩
     ·rw [eq];unfold ij;rw [if_neg (by rw [hp];exact hl)]
     ·refine rQ (k:=n+4) F S (fun vs H Q E hsp=>hsp.1) fun cdv A outer s H vs Q E hr hsp=>⟨_,hbody (av Pg n) n cdv A outer s H E ih hr,?_⟩
      obtain ⟨hl,μ,M,ds,hM,hr,hq⟩:=hsp
      rw [eq] at hq
      exact sY hs hM hr hq
end LD
namespace LD
open PySem PySem.Spec PyProof.Rows L2
def pQ (P:Params)(e:DictEntry)(kv:Str×Addr):Prop:=∃t,e=⟨PyData.keyHash P kv.1,.str kv.1 t,.ref kv.2⟩
structure jF (K:PySem.W.Frag) (P:Params) (a:Addr) (kvs:List (Str×Addr)):Prop where
 ex:∃(es:Array DictEntry) (n:Nat),K.lookup a=some {cls:=.type "dict",data:=.dict es n}/\Paired (pQ P) es.toList kvs
 nd:(kvs.map (·.1)).Nodup
 ns:(a==sysModules)=false
def wA (kvs:List (Str×Addr)):List (Key×Value):=kvs.map fun kv=>(Sum.inr kv.1,.ref kv.2)
theorem vo {P:Params}:∀{es:List DictEntry}{kvs:List (Str×Addr)},Paired (pQ P) es kvs->∀e∈es,∃x t,e.key=.str x t/\e.hash=PyData.keyHash P x
 |_,_,.nil,e,h=>nomatch h
 | _, _, .cons r t, e, h => by
   rcases List.mem_cons.mp h with z|z
   ·subst z;obtain ⟨t,rfl⟩:=r;exact ⟨_,t,rfl,rfl⟩
   ·exact vo t e z
theorem qI {prog:Program}{w:World}:∀{es:List DictEntry}{kvs:List (Str×Addr)},Paired (pQ w.params) es kvs->Pairs (lX prog w) es (wA kvs)
 |_,_,.nil=>.nil
 | e :: es, kv :: kvs, .cons r t => by
   obtain ⟨u,rfl⟩:=r
   exact Pairs.cons (kv:=((Sum.inr kv.1:Key),Value.ref kv.2)) (lB kv.1 u) rfl (qI t)
theorem vh {X:Cx}{pins:List (Addr×Obj)}{σ:L2.St}{H:Hp}{s:Shared}{a:Addr}{kvs:List (Str×Addr)}(I:Inv X pins σ H s)(h:jF X.K X.w.params a kvs):s.heap.DictOf (lX X.prog X.w) a (wA kvs):=by
 obtain ⟨es,n,lk,pr⟩:=h.ex
 refine ⟨_,es,n,I.kIn _ _ lk,⟨rfl,rfl,rfl⟩,rfl,fun e he=>?_,qI pr,?_⟩
 ·obtain ⟨x,t,e1,e2⟩:=vo pr e (by simpa using he)
  exact ⟨Sum.inr x,by rw [e1];exact lB x t,e2⟩
 ·have e:(wA kvs).map (·.1)=(kvs.map (·.1)).map Sum.inr:=by unfold wA;simp
  rw [e]
  exact List.Pairwise.map _ (fun a b (n:a≠b) z=>n (Sum.inr.inj z)) h.nd
theorem zP (kvs:List (Str×Addr))(k:Str):valueAt (wA kvs) (Sum.inr k:Key)=(kvs.lookup k).map Value.ref:=by
 induction kvs with
 |nil=>rfl
 | cons kv r ih =>
   unfold valueAt wA at ih ⊢
   rw [List.map_cons,List.find?_cons,List.lookup_cons]
   by_cases e:kv.1=k
   ·subst e;simp
   ·have e2:decide ((Sum.inr kv.1:Key)=Sum.inr k)=false:=decide_eq_false fun z=>e (Sum.inr.inj z)
    have e3:(k==kv.1)=false:=beq_eq_false_iff_ne.mpr (Ne.symm e)
    rw [e2,e3]
    exact ih
def fG (fa:Fa)(kvs:List (Str×Addr))(fs:List (Str×Nat)):Prop:=Paired (fun (p:Str×Addr) (q:Str×Nat)=>p.1=q.1/\fa q.2=some p.2) kvs fs
theorem fG.look {fa:Fa}{k:Str}:∀{kvs:List (Str×Addr)}{fs:List (Str×Nat)},fG fa kvs fs->(fs.lookup k=none/\kvs.lookup k=none)\/∃f ad,fs.lookup k=some f/\kvs.lookup k=some ad/\fa f=some ad
 |_,_,.nil=>.inl ⟨rfl,rfl⟩
 | (x, a) :: r, (y, f) :: t, .cons ⟨e1, e2⟩ q => by
   have e1:x=y:=e1
   subst e1
   rw [List.lookup_cons,List.lookup_cons]
   cases e:k==x with
   |true=>exact .inr ⟨f,a,rfl,rfl,e2⟩
   |false=>exact fG.look q
def oz (fs:List (Str×Nat))(i:GE):GE:=fun Z M=>(i Z M).bind fun d M=>match d with
 |.str k=>cZ M ((fs.lookup k).map D.fn)
 |_=>.bad
def oy (fs:List (Str×Nat))(i:GE):GE:=fun Z M=>(i Z M).bind fun d M=>match d with
 |.str k=>.ok (.bl (!(fs.lookup k).isSome)) M
 |_=>.bad
section
variable {fa:Fa}{X:Cx}{a b:Expr}{ga gb:GE}{pos p:Pos}{ad:Addr}{kvs:List (Str×Addr)}{fs:List (Str×Nat)}{x:Str}
theorem BX (hd:jF X.K X.w.params ad kvs):mf X (fun x y H Q=>∃k v,x=.ref ad/\y=.str k/\kvs.lookup k=some v/\Q (.ref v) H):=by
 intro value slice pins s σ H x y v u Q I rx ry h hs
 obtain ⟨k,c,rfl,rfl,hk,q⟩:=h
 cases rx
 obtain ⟨t,rfl⟩:=ry
 have dd:=vh I hd
 have hT:s.TypeIs (.ref ad) "dict":=let ⟨o,_,_,ho,⟨hc,_⟩,_⟩:=dd;⟨o,ho,hc⟩
 refine tail_any hT PySem.F.slot_dict_getitem.lookup (wpAny_getItem_of (k:=(Sum.inr k:Key)) (lB k t) dd.mapOf (v:=.ref c) ?_ ?_) hs
 ·rw [zP,hk];rfl
 ·exact ⟨.ref c,H,I.tok _,rfl,q⟩
theorem Bt (hd:jF X.K X.w.params ad kvs):cu X (compareOp .NotIn) (fun x y H Q=>∃k,x=.str k/\y=.ref ad/\Q (.bl (!(kvs.lookup k).isSome)) H):=by
 intro pins s σ H x y v u Q I rx ry h
 obtain ⟨k,rfl,rfl,q⟩:=h
 obtain ⟨t,rfl⟩:=rx
 cases ry
 have dd:=vh I hd
 refine wpAny_notIn_of (k:=(Sum.inr k:Key)) (lB k t) hd.ns dd.mapOf ?_
 rw [zP,Option.isSome_map]
 exact ⟨.bl _,H,I.tok _,rfl,q⟩
theorem FH (hd:jF X.K X.w.params ad kvs)(ho:fG fa kvs fs)(hg:Gl X x)(hm:X.mg x=some (.ref ad))(hdb:(x==("__debug__":Str))=false)(hb:DE fa X b gb)(hs:md b):DE fa X (.Subscript (.Name x p) b pos) (oz fs gb):=
 cn (CF (BX hd) (lU (v:=.ref ad) hg hm rfl hdb) hb hs) fun σ H Q ⟨μ,Z,M,hE,hM,h⟩=>t1 hE hM h fun d M1 v H1 μ1 x1 hE1 hM1 r1 h1=>by
  cases d with
  | str k =>
    obtain ⟨d,e,q⟩:=om h1
    rcases ho.look (k:=k) with ⟨e1,_⟩|⟨f,c,e1,e2,e3⟩
    ·rw [e1] at e;cases e
    ·rw [e1] at e
     cases e
     exact ⟨k,c,rfl,r1,e2,q (.ref c) H1 μ1 x1 hM1 ⟨c,rfl,e3⟩⟩
  |_=>exact h1.elim
theorem Bw {d:D}{M1:Mem}{P:D->Mem->Prop}(h:aj (match d with|.str k=>Res.ok (.bl (!(fs.lookup k).isSome)) M1|_=>.bad) P):∃k,d=.str k/\P (.bl (!(fs.lookup k).isSome)) M1:=by
 cases d with
 |str k=>exact ⟨k,rfl,h⟩
 |_=>exact h.elim
theorem Cb (ho:fG fa kvs fs)(k:Str):(kvs.lookup k).isSome=(fs.lookup k).isSome:=by
 rcases ho.look (k:=k) with ⟨e1,e2⟩|⟨f,c,e1,e2,_⟩<;>rw [e1,e2]<;>rfl
theorem HM (ho:fG fa kvs fs)(σ:L2.St)(H:Hp)(Q:VK)(h:tE fa X.K (oy fs ga) σ H Q):yR (fun x y H Q=>∃k,x=.str k/\y=.ref ad/\Q (.bl (!(kvs.lookup k).isSome)) H) (tE fa X.K ga) (tC (.ref ad)) σ H Q:=by
 obtain ⟨μ,Z,M,hE,hM,h⟩:=h
 refine t1 hE hM h fun d M1 v H1 μ1 x1 hE1 hM1 r1 h1=>?_
 obtain ⟨k,rfl,q⟩:=Bw h1
 refine ⟨k,r1,rfl,?_⟩
 rw [Cb ho]
 exact q (.bl _) H1 μ1 x1 hM1 rfl
theorem FR (hd:jF X.K X.w.params ad kvs)(ho:fG fa kvs fs)(hg:Gl X x)(hm:X.mg x=some (.ref ad))(hdb:(x==("__debug__":Str))=false)(ha:DE fa X a ga)(hmk:behindInMarks .NotIn (.Name x p)=false):DT fa X (.Compare a [.NotIn] [.Name x p] pos) (aL (oy fs ga)):=
 nE (we (Bt hd) ha (lU (v:=.ref ad) hg hm rfl hdb) hmk) fun σ H Q h=>by
  refine HM ho σ H _ ?_
  obtain ⟨μ,Z,M,hE,hM,h⟩:=h
  obtain ⟨z,M3,e,q⟩:=a9 h
  refine ⟨μ,Z,M,hE,hM,?_⟩
  rw [e]
  have hz:∃k,z=.bl k:=by
   obtain ⟨d,M1,e1,e2⟩:=fF e
   cases d<;>first|(cases e2;exact ⟨_,rfl⟩)|cases e2
  obtain ⟨k,rfl⟩:=hz
  intro v H' μ' x' m' r'
  obtain rfl:v=.bl k:=r'
  exact ⟨k,rfl,q H' μ' x' m'⟩
def nN (m:Bool)(a:GE):GE:=fun Z M=>(a Z M).bind fun x M=>match x with
 |.int n=>if -(2^62)<=n/\n<2^20 then bT m ((List.range n.toNat).map fun (k:Nat)=>D.int (k:Int)) M else .bad
 |_=>.bad
theorem yb:∀(n:Nat) (its:List Value),its.length=n->(∀(i:Nat) (v:Value),its[i]?=some v->∃t,v=.int (i:Int) t)->Vals ((List.range n).map fun (k:Nat)=>V.int (k:Int)) its:=by
 intro n its hl h
 have key:∀(k:Nat) (its:List Value),(∀(i:Nat) (v:Value),its[i]?=some v->∃t,v=.int ((k+i:Nat):Int) t)->Vals ((List.range its.length).map fun (j:Nat)=>V.int ((k+j:Nat):Int)) its:=by
  intro k its
  induction its generalizing k with
  |nil=>intro _;exact .nil
  | cons v r ih =>
    intro h
    rw [List.length_cons,List.range_succ_eq_map,List.map_cons,List.map_map]
    refine .cons (h 0 v rfl) ?_
    have:=ih (k+1) fun i u e=>by
     have:=h (i+1) u (by simpa using e)
     rw [show k+1+i=k+(i+1) by omega];exact this
    refine cast (congrArg (fun f=>Vals ((List.range r.length).map f) r) ?_) this
    funext j
    show V.int _=V.int _
    congr 2
    omega
 have:=key 0 its fun i v e=>by rw [Nat.zero_add];exact h i v e
 rw [hl] at this
 simpa using this
theorem DH (m:Bool){p1 p2 pos2:Pos}(hc:X.calm=true)(ha:DE fa X a ga)(hgl:Gl X "list")(hml:X.mg "list"=none)(hg:Gl X "range")(hm:X.mg "range"=none)(hs:starEach [a] X.env=[(false,eval a X.env)])
 (hs2:starEach [.Call (.Name "range" p2) [a] [] pos2] X.env=[(false,eval (.Call (.Name "range" p2) [a] [] pos2) X.env)]) :
 DE fa X (.Call (.Name "list" p1) [.Call (.Name "range" p2) [a] [] pos2] [] pos) (nN m ga):=by
 intro pins s σ H Q I ⟨μ,Z,M,hE,hM,h⟩
 obtain ⟨x,M1,e,q⟩:=a9 h
 have key:∀n,x=.int n->aj (if -(2^62)<=n/\n<2^20 then bT m ((List.range n.toNat).map fun (k:Nat)=>D.int (k:Int)) M1 else .bad) (bH fa X.K μ H Q)->
  wpAny (model X.prog X.w) X.A (eval (.Call (.Name "list" p1) [.Call (.Name "range" p2) [a] [] pos2] [] pos) X.env) (EP X pins σ Q) X.xe s:=fun n en q'=>by
  subst en
  by_cases c:-(2^62)<=n/\n<2^20
  ·rw [if_pos c] at q'
   refine Call_ (iN I hgl hml (by decide +kernel:bootBuiltins "list"=some (.type "list")) (PyProof.Rows.callWith_type1 ?_ hs2 rfl))
   rw [hs2]
   refine Calls.spliced_cons ?_
   refine Call_ (iN I hg hm boot_range (PyProof.Rows.callWith_type1 (bp (cp ha eh hs pos2 pins s σ H (fun vs H1=>∃μ1,vs=[.int n]/\Ext μ H μ1 H1/\RelM fa X.K μ1 H1 M1) I ⟨μ,Z,M,hE,hM,?_⟩) fun us s1 ⟨vs,H1,I1,r1,μ1,ev,x1,m1⟩=>?_) hs rfl))
   ·rw [e]
    intro v H1 μ1 x1 m1 r1
    obtain rfl:v=.int n:=r1
    exact ⟨μ1,rfl,x1,m1⟩
   subst ev
   cases r1 with
   | cons r rr =>
     cases rr
     obtain ⟨t,rfl⟩:=r
     refine call_range_1 ?_
     refine Calls.spliced_nil ?_
     refine call_list_range (n:=n.toNat) (I.ok.hd hc) (IsRange.new ..) (small_one (by omega) (by omega) (by omega) (by omega)) (by rw [rangeSize_one];split<;>omega) (by omega) fun h' tk acc' c' kp eS its=>?_
     obtain ⟨hsz,hit⟩:=its
     have I2:Inv X pins σ H1 {s1 with heap:=s1.heap.push {cls:=.type "range",data:=.fields #[.int 0 s1.toks,.int n t,.int 1 (s1.toks+1)]},toks:=s1.toks+1+1}:=I1.kept fun b o e=>tqc _ e
     have hv:Vals ((List.range n.toNat).map fun (k:Nat)=>V.int (k:Int)) acc'.toList:=yb n.toNat acc'.toList (by simpa using hsz) fun i v e=>by
      obtain ⟨u,z⟩:=hit i v (by simpa using e)
      exact ⟨u,by rw [z];simp⟩
     have rl:aX fa X.K μ1 H1 ((List.range n.toNat).map fun (k:Nat)=>D.int (k:Int)) ((List.range n.toNat).map fun (k:Nat)=>V.int (k:Int)):=by
      have:=aX.ints (fa:=fa) (K:=X.K) (μ:=μ1) (H:=H1) ((List.range n.toNat).map fun (k:Nat)=>(k:Int))
      simpa [List.map_map,Function.comp_def] using this
     obtain ⟨c1,k1⟩:=ib m1 rl (lV q' x1)
     refine ⟨.ref _,_,I2.laid (t':=tk) (o:=.lst ((List.range n.toNat).map fun (k:Nat)=>V.int (k:Int))) kp (tqg _) ⟨?_,acc'.toList,c',hv,by simpa using eS⟩,rfl,k1 _ (I2.hok.fresh (tqg _))⟩
     rw [rl.length,<- dQ];exact c1
  ·rw [if_neg c] at q';exact q'.elim
 cases x with
 |int n=>exact key n rfl q
 |_=>exact q.elim
end
end LD
namespace LD
open PySem PySem.Spec PyProof.Rows L2
def wR (bn N:List Str)(sc scope:Scope):Bool:=
 scope.names.all (fun y=>y.2 != .cell&&(y.2 != .local||scope.names.lookup y.1==some .local)&&(y.2 != .free||sc.names.lookup y.1==some .cell||sc.names.lookup y.1==some .free)) &&
 bn.length==N.length&&(bn.zip N).all fun p=>(p.1==p.2&&scope.names.lookup p.2 != some .local)||scope.names.lookup p.1==none
theorem qj {α β:Type}{R:α->β->Prop}:∀{l:List α}{r:List β},l.length=r.length->(∀p∈l.zip r,R p.1 p.2)->Paired R l r
 |[],[],_,_=>.nil
 |a::l,b::r,h,g=>.cons (g (a,b) List.mem_cons_self) (qj (by simpa using h) fun p hp=>g p (List.mem_cons_of_mem _ hp))
 |[],_::_,h,_=>by cases h
 |_::_,[],h,_=>by cases h
theorem cM {X:Cx}{own bn N:List Str}{sc scope:Scope}(hk:scope.kind=.function)(hs:X.env.scope=sc)(hN:X.N=N)(h:wR bn N sc scope=true):fA X own bn scope:=by
 unfold wR at h
 rw [Bool.and_eq_true,Bool.and_eq_true,List.all_eq_true,List.all_eq_true] at h
 obtain ⟨⟨h1,hl⟩,h2⟩:=h
 refine ⟨hk,fun y hy=>?_,fun y hy e=>?_,fun y hy e=>?_,?_⟩
 ·have:=h1 y hy
  simp only [Bool.and_eq_true] at this
  simpa using this.1.1
 ·have:=h1 y hy
  simp only [Bool.and_eq_true] at this
  have:=this.1.2
  rw [e] at this
  simpa using this
 ·have:=h1 y hy
  simp only [Bool.and_eq_true] at this
  have:=this.2
  rw [e] at this
  show X.env.scope.names.lookup y.1=_\/X.env.scope.names.lookup y.1=_
  rw [hs]
  simpa using this
 ·rw [hN]
  refine qj (by simpa using hl) fun p hp=>?_
  have:=h2 p hp
  simp only [Bool.or_eq_true,Bool.and_eq_true,beq_iff_eq,bne_iff_ne] at this
  exact this
section
variable {fa:Fa}{X:Cx}{elt tg iter c t2 i2:Expr}{scope:Scope}{pos:Pos}{own bn:List Str}{t u:dv}{gw gw2:GW}{ge:GE}{gc:GT}
theorem kz {n:Nat}{l:List Nat}(h:l.all (· < n)=true):∀i∈l,i<n:=fun i hi=>by
 have:=List.all_eq_true.mp h i hi
 simpa using this
theorem y9 {l W:List Nat}(h:W.all (fun i=>!l.contains i)=true):∀i∈W,i∉l:=fun i hi z=>by
 have:=List.all_eq_true.mp h i hi
 simp [z] at this
variable {i:Nat}{y:Str}{py spos:Pos}
theorem Dy (m:Bool)(S:fA X own bn scope)(hc:X.calm=true)(hi:DI fa X tg iter gw)(pg:∀cl C fp s H,PG (cg X own bn scope cl C fp s H) tg (gT fa X.K t))(hi2:∀cl C fp s H,DI fa (cg X own bn scope cl C fp s H) t2 i2 gw2)(pg2:∀cl C fp s H,PG (cg X own bn scope cl C fp s H) t2 (gT fa X.K u))(he:∀cl C fp s H,DE fa (cg X own bn scope cl C fp s H) elt ge)
 (hn:(slots t++slots u).all (· < own.length)=true) (hW:(slots u).all (fun i=>!(slots t).contains i)=true) (hs:∀x,foldedSetIterable iter X.env x=pure x) (hs2:∀cl C fp s H,∀x,foldedSetIterable i2 (cg X own bn scope cl C fp s H).env x=pure x)
 (hN:X.N.Nodup) (hy:X.N[i]?=some y) (hl:X.env.scope.names.lookup y=some .local)
 (hsw:swapsWith (.ListComp elt [⟨tg,iter,[],0⟩,⟨t2,i2,[],0⟩] scope pos) (some (.Name y py)) spos.line X.env=pure true):DS fa X (.Assign [.Name y py] (.ListComp elt [⟨tg,iter,[],0⟩,⟨t2,i2,[],0⟩] scope pos) spos) (aU (.one i) (cG m own.length t gw (rP u gw2 (cF ge)))):=
 uJ m (W:=slots u) (body:=fun a env=>eval i2 env >>= fun x=>standAt i2.pos >>= fun _=>foldedSetIterable i2 env x >>= fun x=>holding [x] (pyIter x) >>= fun j=>runOwn (.compStart (.ListComp elt [⟨tg,iter,[],0⟩,⟨t2,i2,[],0⟩] scope pos) 1 j (.ref a) env) env >>= fun _=>pure ())
  S hc hi ⟨pg,fun cl C fp s H a=>Il (X:=cg X own bn scope cl C fp s H) rfl hc (hi2 cl C fp s H) (pg2 cl C fp s H) (he cl C fp s H) (hs2 cl C fp s H)⟩ (fun it a env=>AO elt tg iter t2 i2 scope pos (.ref it) (.ref a) env) (y9 hW) (kz hn) hs hN hy hl hsw
end
end LD
namespace LD
open PySem PySem.Spec PyProof.Rows L2
theorem j5 {α β:Type}{f g:α->Option β}:∀{l:List α},(∀x∈l,f x=g x)->l.filterMap f=l.filterMap g
 |[],_=>rfl
 | a :: l, h => by
   rw [List.filterMap_cons,List.filterMap_cons,h a List.mem_cons_self,j5 (l:=l) fun x hx=>h x (List.mem_cons_of_mem _ hx)]
theorem sH (n:Nat)(xs:List Value)(h:xs.length=n):(List.range n).filterMap (fun (k:Nat)=>xs[n-1-k]?)=xs.reverse:=by
 have e:∀k∈List.range n,xs[n-1-k]?=some (xs.reverse.getD k .none):=fun k hk=>by
  have hk:=List.mem_range.mp hk
  rw [List.getD_eq_getElem?_getD,List.getElem?_reverse (by omega),h,List.getElem?_eq_getElem (by omega)]
  simp
 have:(List.range n).filterMap (fun (k:Nat)=>xs[n-1-k]?)=(List.range n).map fun k=>xs.reverse.getD k .none:=by
  rw [j5 (g:=fun k=>some (xs.reverse.getD k .none)) e]
  simp
 rw [this]
 refine List.ext_getElem? fun i=>?_
 rw [List.getElem?_map]
 by_cases hi:i<n
 ·rw [List.getElem?_range hi]
  show some (xs.reverse.getD i .none)=_
  rw [List.getD_eq_getElem?_getD,List.getElem?_eq_getElem (show i<xs.reverse.length by simp;omega)]
  simp
 ·rw [List.getElem?_eq_none (by simp;omega),List.getElem?_eq_none (by simp;omega)]
  rfl
theorem tx (its:List Value):slicePick its.toArray none none (some (-1))=its.reverse.toArray:=by
 unfold slicePick sliceBounds sliceRange
 simp only [Option.getD_some,List.size_toArray]
 have e1:¬ ((-1:Int) > 0):=by decide
 simp only [e1,if_false]
 have e2:(if (its.length:Int)-1 > -1 then ((its.length:Int)-1 - -1 - -1-1) / (- -1) else 0).toNat=its.length:=by
  split
  ·simp
  ·omega
 rw [e2,List.filterMap_map,<- sH its.length its rfl]
 congr 1
 refine j5 fun k hk=>?_
 have hk:=List.mem_range.mp hk
 have e3:((its.length:Int)-1+-1*(k:Int)).toNat=its.length-1-k:=by omega
 show its.toArray[((its.length:Int)-1+-1*(k:Int)).toNat]?=_
 rw [e3]
 simp
section
variable {prog:Program}{w:World}{A:Around}{E:Value->Shared->Prop}{s:Shared}
theorem oQ {t sl:Addr}{items:Array Value}{k:Tok}{Q:Value->Shared->Prop}(ht:IsTup s.heap t items)(hs:s.heap.IsSliceOf sl .none .none (.int (-1) k))
 (h:Q (.ref s.heap.objs.size) {s with heap:=s.heap.push {cls:=.type "tuple",data:=.seq items.toList.reverse.toArray}})
 (hsz:items.size<=sizeLine):wpAny (model prog w) A (getItem (.ref t) (.ref sl)) Q E s:=by
 have htake:sizeOk (.seq items.toList.reverse.toArray):=by
  show items.toList.reverse.toArray.size<=sizeLine
  simpa using hsz
 obtain ⟨os,hos,hcs,hds⟩:=id hs
 have hTs:s.TypeIs (.ref sl) "slice":=⟨os,hos,hcs⟩
 unfold getItem
 try with_reducible refine tqo ?_
 first|refine tqa (tqb ?_)|skip
 refine tqa (wpAny_sequenceKey ht.typeIs (by decide) ?_)
 refine tqa (wpAny_callSpecial?_slot (name:=Str.ofString "__getitem__") ht.typeIs PyProof.Rows.slot_tuple_getitem
  (wpAny_call_entry PyProof.Rows.slot_tuple_getitem ht.typeIs entry_tuple_getitem ?_ (args_tuple_getitem _ _)))
 show wpAny _ _ (Builtin.Tuple.tupleItemsOf (.ref t) >>= _) _ _ s
 refine tqa (tupleItemsOf_ ht ?_)
 refine tqa (wpAny_typeOf hTs ?_)
 rw [if_pos (by decide)]
 unfold Builtin.Slice.sliceApplied Builtin.Slice.sliceFields
 refine tqa (tqa (tqa (tqf hos hds (x:=.none) rfl (tqa (tqf hos hds (x:=.none) rfl (tqa (tqf hos hds (x:=.int (-1) k) rfl (tqb ?_))))))))
 refine tqa (slicePart_int ?_)
 show wpAny _ _ (if ((-1:Int)==0)=true then _ else _) _ _ s
 rw [if_neg (by decide)]
 refine tqa (slicePart_none (tqa (slicePart_none (tqa (tqb ?_)))))
 have ea:Builtin.Slice.sliceAdjust none none (-1) (items.size:Int)=((items.size:Int)-1,-1):=by simp [Builtin.Slice.sliceAdjust]
 have ep:Builtin.Slice.slicePlaces ((items.size:Int)-1) (-1) (-1)=items.size:=by
  unfold Builtin.Slice.slicePlaces
  rw [if_neg (by decide)]
  split
  ·simp
  ·omega
 show wpAny _ _ (match Builtin.Slice.sliceAdjust none none (-1) (items.size:Int) with|(lo,hi)=>pure (lo,(-1:Int),Builtin.Slice.slicePlaces lo hi (-1))) _ _ s
 rw [ea]
 show wpAny _ _ (pure ((items.size:Int)-1,(-1:Int),Builtin.Slice.slicePlaces ((items.size:Int)-1) (-1) (-1))) _ _ s
 rw [ep]
 refine tqb ?_
 have hno:¬ ((((items.size:Int)-1)==0&&(-1:Int)==1&&items.size==items.size)=true):=by simp
 show wpAny _ _ (if (((items.size:Int)-1)==0&&(-1:Int)==1&&items.size==items.size)=true then _ else _) _ _ s
 rw [if_neg hno]
 have pick:((List.range items.size).filterMap fun (m:Nat)=>items[(((items.size:Int)-1)+(m:Int) * -1).toNat]?).toArray=items.toList.reverse.toArray:=by
  rw [<- sH items.size items.toList (by simp)]
  congr 1
  refine j5 fun m hm=>?_
  have hm:=List.mem_range.mp hm
  have e3:((items.size:Int)-1+(m:Int) * -1).toNat=items.size-1-m:=by omega
  rw [e3]
  simp
 rw [pick]
 first
  |exact tqa (m:=Builtin.Tuple.tupleExact _) (wpAny_newObj_type (tqb ⟨_,rfl,tqb h⟩) htake)
  |exact tqa (m:=Builtin.Tuple.tupleExact _) (wpAny_newObj_type (tqa (tqb (tqb ⟨_,rfl,tqb h⟩))) htake)
  |exact tqa (tqa (m:=Builtin.Tuple.tupleExact _) (wpAny_newObj_type (tqb (tqb ⟨_,rfl,tqb h⟩)) htake))
  |exact tqa (tqa (m:=Builtin.Tuple.tupleExact _) (wpAny_newObj_type (tqb ⟨_,rfl,tqb h⟩) htake))
end
section
variable {fa:Fa}{X:Cx}{a st:Expr}{ga:GE}{pos p2:Pos}
def xf (m:Bool)(x:D)(M:Mem):Res D:=match x with
 |.tup xs=>.ok (.tup xs.reverse) M
 | x => match gi M x with
   |some xs=>bT m xs.reverse M
   |none=>.bad
def mJ (m:Bool)(a:GE):GE:=fun Z M=>(a Z M).bind fun x M=>xf m x M
def FL (K:PySem.W.Frag):V->Hp->VK->Prop:=fun x H Q=>∃a xs,x=.ref a/\((dg K H a xs/\∀p,H p=none->Q (.ref p) (upd H p (.lst xs.reverse)))\/(d8 K H a xs/\∀p,H p=none->Q (.ref p) (upd H p (.tup xs.reverse))))
theorem ph:∀{xs:List V}{us:List Value},Vals xs us->Vals xs.reverse us.reverse
 |_,_,.nil=>.nil
 | _, _, .cons p r => by
   rw [List.reverse_cons,List.reverse_cons]
   exact (ph r).append (.cons p .nil)
theorem Gf {ta:TE}(ha:PE X a ta){ts:TE}(hst:PE X st ts) :
 PE X (.Subscript a (.Slice none none (some st) p2) pos) (fun σ H Q=>ta σ H fun x H1=>ts σ H1 fun y H2=>y=.int (-1)/\FL X.K x H2 Q):=by
 intro pins s σ H Q I h
 refine Subscript_ (bp (ha pins s σ H _ I h) fun v s1 ⟨x,H1,I1,r1,q1⟩=>?_)
 refine wpAny_Slice ?_
 rw [evalPart_none]
 refine tqb ?_
 refine tqb ?_
 rw [evalPart_some]
 refine bp (hst pins s1 σ H1 _ I1 q1) fun vu s3 ⟨y,H3,I3,r3,ey,q3⟩=>?_
 subst ey
 obtain ⟨k,rfl⟩:=r3
 have I4:Inv X pins σ H3 {s3 with heap:=s3.heap.push {cls:=.type "slice",data:=.fields #[.none,.none,.int (-1) k]}}:=I3.kept (t':=s3.toks) fun b ob q=>tqc _ q
 have hsl:(s3.heap.push {cls:=.type "slice",data:=.fields #[.none,.none,.int (-1) k]}).IsSliceOf s3.heap.objs.size .none .none (.int (-1) k):=Heap.IsSliceOf.new ..
 obtain ⟨b,xs,rfl,q⟩:=q3
 cases r1
 have key:∃T id,typeLookup (.type T) "__getitem__"=pure (some (.builtin id))/\Shared.TypeIs {s3 with heap:=s3.heap.push {cls:=.type "slice",data:=.fields #[.none,.none,.int (-1) k]}} (.ref b) T/\wpAny (model X.prog X.w) X.A (getItem (.ref b) (.ref s3.heap.objs.size)) (EP X pins σ Q) X.xe {s3 with heap:=s3.heap.push {cls:=.type "slice",data:=.fields #[.none,.none,.int (-1) k]}}:=by
  rcases q with ⟨hx,q⟩|⟨hx,q⟩
  ·obtain ⟨its,r,ht,hz⟩:=I4.list hx
   have hlen:=r.length
   refine ⟨"list",_,slot_list_getitem.lookup,ht.isList.typeIs,?_⟩
   refine wpAny_getItem_list_slice ht.isList hsl .none .none (.int (-1) k) (by decide) ?_ (by rw [List.size_toArray]<;>omega)
   rw [tx]
   refine ⟨.ref _,_,I4.laid (t':=s3.toks) (o:=.lst xs.reverse) (fun b ob q=>tqc _ q) (tqg _) ?_,rfl,q _ (I4.hok.fresh (tqg _))⟩
   exact ⟨by simpa using hz,_,0,ph r,tqe _ rfl⟩
  ·obtain ⟨its,r,ht,hz⟩:=I4.tuple hx
   have hlen:=r.length
   refine ⟨"tuple",_,PyProof.Rows.slot_tuple_getitem.lookup,ht.typeIs,?_⟩
   refine oQ ht hsl ?_ (by rw [List.size_toArray,<- hlen];exact hz)
   refine ⟨.ref _,_,I4.laid (t':=s3.toks) (o:=.tup xs.reverse) (fun b ob q=>tqc _ q) (tqg _) ?_,rfl,q _ (I4.hok.fresh (tqg _))⟩
   exact ⟨by simpa using hz,_,ph r,IsTup.new _ _⟩
 obtain ⟨T,id,hT,ht,hg⟩:=key
 show wpAny (model X.prog X.w) X.A (subscriptTail a (.Slice none none (some st) p2) (.ref b) (.ref s3.heap.objs.size)) (EP X pins σ Q) X.xe {s3 with heap:=s3.heap.push {cls:=.type "slice",data:=.fields #[.none,.none,.int (-1) k]}}
 exact tail_any (ops:=[.ref b,.ref s3.heap.objs.size]) ht hT hg (by with_unfolding_all rfl)
theorem Jc (m:Bool){pc pu:Pos}{k:Nat}(ha:DE fa X a ga):DE fa X (.Subscript a (.Slice none none (some (.UnaryOp .USub (.Constant (.int 1) k pc) pu)) p2) pos) (mJ m ga):=
 cn (Gf ha (CD yK zm)) fun σ H Q ⟨μ,Z,M,hE,hM,h⟩=>t1 hE hM h fun x M1 v H1 μ1 x1 hE1 hM1 r1 h1=>by
  refine ⟨1,rfl,rfl,?_⟩
  have lst:∀(ds:List D) (b:Addr) (vs:List V),dg X.K H1 b vs->aX fa X.K μ1 H1 ds vs->aj (bT m ds.reverse M1) (bH fa X.K μ H Q)->FL X.K (.ref b) H1 Q:=fun ds b vs hs hr h1=>by
   obtain ⟨_,q⟩:=ib hM1 hr.reverse (lV h1 x1)
   exact ⟨b,vs,rfl,.inl ⟨hs,q⟩⟩
  cases x with
  | tup ds =>
    obtain ⟨b,vs,rfl,hs,hr⟩:=r1
    exact ⟨b,vs,rfl,.inr ⟨hs,jc hM1 hr.reverse (bH.ext h1 x1)⟩⟩
  | lst ds =>
    obtain ⟨b,vs,rfl,hs,hr⟩:=r1
    exact lst ds b vs (dg.of hs.1) hr h1
  | frz ds =>
    obtain ⟨b,vs,rfl,hs,hr⟩:=r1
    exact lst ds b vs (hs.elim (fun ⟨o,z⟩=>.inl (.inr ⟨o,z⟩)) .inr) hr h1
  | cell k =>
    obtain ⟨b,rfl,hk⟩:=r1
    obtain ⟨ds,vs,e,hH,hr⟩:=hM1.mu_lt hk
    have h1:aj (match M1[k]? with|some xs=>bT m xs.reverse M1|none=>.bad) (bH fa X.K μ H Q):=h1
    rw [e] at h1
    exact lst ds b vs (dg.of hH) hr h1
  |_=>exact h1.elim
end
end LD
namespace LD
open PySem PySem.Spec PyProof.Rows L2
theorem mm {fa:Fa}{mg:Str->Option Value}{i:Nat}{x:Str}{f:Addr}(e:fa i=some f)(m:mg x=some (.ref f)):∀ad,fa i=some ad->mg x=some (.ref ad):=fun ad h=>by rw [e] at h;cases h;exact m
theorem us1 {α:Type}{p:List α->Prop}(h:∀a,p [a])(us:List α)(hl:us.length=1):p us:=by
 obtain ⟨a,rfl⟩:=List.length_eq_one_iff.mp hl;exact h a
theorem J9 {α:Type}{p:List α->Prop}(h:∀a b,p [a,b]):∀(us:List α) (hl:us.length=2),p us
 |[a,b],_=>h a b
theorem us3 {α:Type}{p:List α->Prop}(h:∀a b c,p [a,b,c]):∀(us:List α) (hl:us.length=3),p us
 |[a,b,c],_=>h a b c
theorem us4 {α:Type}{p:List α->Prop}(h:∀a b c d,p [a,b,c,d]):∀(us:List α) (hl:us.length=4),p us
 |[a,b,c,d],_=>h a b c d
theorem Jv {K:PySem.W.Frag}{h:Heap}{mg:Str->Option Value}{f:Addr}{x:Str}{st:Stmt}{oc:Value}{od an:Option Addr}{osl:Array (Option Value)}{kV doc pm cdv ct:Value}(X:K.In h)(G:h.Ns mainGlobals mg)
 (a:PySem.W.nsIn K mainGlobals x=some (some (.ref f))) (l:K.lookup f=some ⟨oc,od,.func (PySem.W.fnOf x x (fT st) (dq st) (aS st) .none kV doc pm an cdv ct),osl⟩)
 (c:PySem.W.codeIn K cdv x=true) (k:PySem.W.keepIn K (.ref f)=true):∃f fd,mg x=some (.ref f)/\oX K x x st f fd:=⟨f,_,PySem.W.mg_of X G a,zZ l c k⟩
theorem lW {K:PySem.W.Frag}{h:Heap}{mg:Str->Option Value}{x:Str}{i:Int}{t:Tok}(X:K.In h)(G:h.Ns mainGlobals mg)(a:PySem.W.nsIn K mainGlobals x=some (some (.int i t))):∃t,mg x=some (.int i t):=⟨t,PySem.W.mg_of X G a⟩
theorem cE {K:PySem.W.Frag}{h:Heap}{mg:Str->Option Value}{x:Str}{f:Addr}(X:K.In h)(G:h.Ns mainGlobals mg)(a:PySem.W.nsIn K mainGlobals x=some (some (.ref f))):mg x=some (.ref f):=PySem.W.mg_of X G a
theorem fo {K:PySem.W.Frag}{h:Heap}{mg:Str->Option Value}{x:Str}(X:K.In h)(G:h.Ns mainGlobals mg)(a:PySem.W.nsIn K mainGlobals x=some none):mg x=none:=PySem.W.mg_none_of X G a
theorem zQ {P:Params}:Paired (pQ P) [] []:=.nil
theorem iq {P:Params}{x:Str}{t:Tok}{a:Addr}{es:List DictEntry}{kvs:List (Str×Addr)}(h:Paired (pQ P) es kvs):Paired (pQ P) (⟨PyData.keyHash P x,.str x t,.ref a⟩::es) ((x,a)::kvs):=.cons ⟨t,rfl⟩ h
def Cz (K:PySem.W.Frag):Sp:=fun vs H Q _=>∃(a:Addr) (ns:List Int),vs=[.ref a]/\dg K H a (ns.map V.int)/\yv H/\ns.length<=63/\∀H',Q (.bl true) H'
theorem Hw {fa:Fa}{P:Program}{w:World}{K:PySem.W.Frag}{mg:Str->Option Value}{base:Heap}{Pg:Nat->Option Df}{n f:Nat}{ad:Addr}{d:Df}{fd:FuncData}{N:List Str}{st:Stmt}{x qual y:Str}(h:∀f d,Pg f=some d->ua fa P w K mg base f d)
 (hl:∀ns:List Int,ns.length<=63->∃M,av Pg (n+1) f [.frz (ns.map D.int)] []=.ok (.bl true) M) (e:Pg f=some d) (F:oX K x qual st ad fd) (S:gP N [y] (aS st)) (hs:d.slots=N.length)
 (hbody:∀(call:Call) (n:Nat) (cdv:Value) (A:Around) (outer:List PySem.Env) (s:Shared) (H:Hp) (E:XK),(∀f,g9 fa P w K mg base n f (call f))->cy (n+4) (A.deeper (envOfC qual (aS st) s.heap.objs.size ad cdv))->
  g8 fa (fX (iu P w) P w K mg base N qual (aS st) ad cdv A outer s H E) (dq st) (d.body call)):lR P w K mg base (iu P w) (n+4+1) ad fd [y] (Cz K):=by
 have eq:∀ds M,av Pg (n+1) f ds M=ij (av Pg n) d ds M:=fun ds M=>by show (match Pg f with|none=>Res.bad|some d=>ij (av Pg n) d ds M)=_;rw [e]
 refine rQ F S (fun vs H Q E hsp=>?_) fun cdv A outer s H vs Q E hr hsp=>⟨_,hbody (av Pg n) n cdv A outer s H E (vB h n) hr,?_⟩
 ·obtain ⟨a,ns,rfl,_⟩:=hsp;rfl
 ·obtain ⟨a,ns,rfl,hS,hO,hn,q⟩:=hsp
  obtain ⟨M',e'⟩:=hl ns hn
  rw [eq] at e'
  have rp:aX fa K ⟨fun _=>none,[]⟩ H [.frz (ns.map D.int)] [.ref a]:=by
   refine ⟨.ref a,[],rfl,⟨a,ns.map V.int,rfl,?_,aX.ints ns⟩,rfl⟩
   rcases hS with (z|⟨o,z⟩)|z
   ·rcases hO a with y|⟨o,xs,y⟩
    ·rw [y] at z;cases z
    ·rw [y] at z;cases z
   ·exact .inl ⟨o,z⟩
   ·exact .inr z
  refine sY (μ:=⟨fun _=>none,[]⟩) (M:=[]) hs ⟨fun k ds z=>by simp at z,fun _ _=>rfl,(fun _ _ _ z=>nomatch z),(fun _ z=>nomatch z)⟩ rp ?_
  rw [e']
  intro v H' μ' _ _ r
  obtain rfl:v=.bl true:=r
  exact q H'
theorem DG {o:Option Value}{a b:Addr}(h:o=some (.ref a))(h':o=some (.ref b)):a=b:=by rw [h] at h';cases h';rfl
theorem gu {fa:Fa}{x:Str}{a b:Addr}{i:Nat}{kvs:List (Str×Addr)}{fs:List (Str×Nat)}{o:Option Value}(h:fa i=some a)(h1:o=some (.ref a))(h2:o=some (.ref b))(r:fG fa kvs fs):fG fa ((x,b)::kvs) ((x,i)::fs):=
 .cons ⟨rfl,by rw [<- DG h1 h2];exact h⟩ r
theorem wz {K:PySem.W.Frag}{h:Heap}{mg:Str->Option Value}{x:Str}{ad:Addr}{P:Params}{es:Array DictEntry}{n:Nat}{kvs:List (Str×Addr)}{fa:Fa}{fs:List (Str×Nat)}(X:K.In h)(G:h.Ns mainGlobals mg)(a:PySem.W.nsIn K mainGlobals x=some (some (.ref ad)))
 (l:K.lookup ad=some {cls:=.type "dict",data:=.dict es n}) (he:Paired (pQ P) es.toList kvs) (nd:(kvs.map (·.1)).Nodup) (ns:(ad==sysModules)=false) (dk:fG fa kvs fs):∃ad kvs,mg x=some (.ref ad)/\jF K P ad kvs/\fG fa kvs fs:=
 ⟨ad,kvs,PySem.W.mg_of X G a,⟨⟨es,n,l,he⟩,nd,ns⟩,dk⟩
end LD
namespace LD
open PySem PySem.Spec PyProof.Rows L2
theorem yS (lo hi:Option Int)(n:Nat):Builtin.Str.strSliceIndices lo hi 1 n=(List.range (HT.aV n n hi-HT.aV n 0 lo)).map (HT.aV n 0 lo+·):=by
 rw [<- sliceRange_one]
 unfold Builtin.Str.strSliceIndices
 simp only [show (1:Int) > 0 by decide,if_true]
 congr 1
 ·cases lo with
  |none=>rfl
  | some i =>
    simp only [HT.aV]
    split<;>omega
 ·cases hi with
  |none=>rfl
  | some i =>
    simp only [HT.aV]
    split<;>omega
def ju (z:Str)(l h:Nat):Str:=⟨(cut z.cps.toList l h).toArray⟩
section
variable {fa:Fa}{X:Cx}{a b:Expr}{ga gb:GE}{pos p2:Pos}{tg:Expr}
theorem uU {v:Value}{o:Option Int}(h:IsPart v o):∃p:Option (Int×Tok),v=partValue p/\p.map (·.1)=o:=by
 cases h with
 |none=>exact ⟨none,rfl,rfl⟩
 |int i t=>exact ⟨some (i,t),rfl,rfl⟩
theorem Fs:mU X (fun x lo hi H Q=>∃z:Str,x=.str z/\z.cps.size<=sizeLine/\Q (.str (ju z (HT.aV z.cps.size 0 lo) (HT.aV z.cps.size z.cps.size hi))) H):=by
 intro pins s σ H x v vl vu lo hi sl Q I rx hs pl pu h
 obtain ⟨z,rfl,hz,q⟩:=h
 obtain ⟨t,rfl⟩:=rx
 obtain ⟨l,rfl,el⟩:=uU pl
 obtain ⟨u,rfl,eu⟩:=uU pu
 refine ⟨"str",_,slot_str_getitem.lookup,typeIs_str s z t,?_⟩
 refine wpAny_getItem_str_slice (l:=l) (u:=u) (st:=none) hs rfl ?_
 have e:(slicePicked z l u none).filterMap (z.cps[·]?)=cut z.cps.toList (HT.aV z.cps.size 0 lo) (HT.aV z.cps.size z.cps.size hi):=by
  unfold slicePicked
  rw [el,eu]
  show (Builtin.Str.strSliceIndices lo hi 1 z.cps.size).filterMap _=_
  rw [yS,pick_run]
  rfl
 unfold sliceMade
 split
 ·next c=>
  have c':(slicePicked z l u none).length=z.length:=by simpa using c
  have e2:ju z (HT.aV z.cps.size 0 lo) (HT.aV z.cps.size z.cps.size hi)=z:=by
   have hl:HT.aV z.cps.size z.cps.size hi-HT.aV z.cps.size 0 lo=z.cps.size:=by
    unfold slicePicked at c'
    rw [el,eu] at c'
    have c':(Builtin.Str.strSliceIndices lo hi 1 z.cps.size).length=z.cps.size:=c'
    rw [yS] at c'
    simpa using c'
   have hh:HT.aV z.cps.size z.cps.size hi<=z.cps.size:=by
    cases hi with
    |none=>exact tqg _
    |some i=>simp only [HT.aV];split<;>omega
   have h0:HT.aV z.cps.size 0 lo=0\/z.cps.size=0:=by omega
   unfold ju cut
   rw [hl]
   rcases h0 with h0|h0
   ·rw [h0]
    rcases z with ⟨zs⟩
    show (⟨(List.take zs.size (List.drop 0 zs.toList)).toArray⟩:Str)=⟨zs⟩
    rw [List.drop_zero,List.take_of_length_le (by simp)]
   ·have:z.cps=#[]:=Array.eq_empty_of_size_eq_zero h0
    rcases z with ⟨zs⟩
    simp at this
    subst this
    simp
  rw [e2] at q
  exact ⟨.str z,H,I,⟨t,rfl⟩,q⟩
 ·rw [e]
  refine ⟨?_,.str _,H,I.tok _,⟨_,rfl⟩,q⟩
  have:(cut z.cps.toList (HT.aV z.cps.size 0 lo) (HT.aV z.cps.size z.cps.size hi)).length<=z.cps.size:=by
   unfold cut
   rw [List.length_take,List.length_drop]
   simp
   omega
  show (cut z.cps.toList _ _).toArray.size<=sizeLine
  simp at this ⊢
  omega
def ow (hl hh:Bool)(a lo hi:GE):GE:=fun Z M=>(a Z M).bind fun x M=>(lo Z M).bind fun l M=>(hi Z M).bind fun h M=>if cw hl l&&cw hh h then (match x with
 | .str z => if z.cps.size <= sz then (match aV z.cps.size 0 l, aV z.cps.size z.cps.size h with
   |some l,some h=>.ok (.str (ju z l h)) M
   |_,_=>.bad) else .bad
 |_=>.bad) else .bad
theorem FD (hl hh:Bool){lo hi:Option Expr}{gl gh:GE}(ha:DE fa X a ga)(hlo:DO fa X lo hl gl)(hhi:DO fa X hi hh gh):DE fa X (.Subscript a (.Slice lo hi none p2) pos) (ow hl hh ga gl gh):=
 cn (uS Fs ha hlo hhi) fun σ H Q ⟨μ,Z,M,hE,hM,h⟩=>t1 hE hM h fun x M1 v H1 μ1 x1 hE1 hM1 r1 h1=>by
  obtain ⟨l,M2,e2,h2⟩:=a9 h1
  obtain ⟨u,M3,e3,h3⟩:=a9 h2
  split at h3
  ·next c=>
   rw [Bool.and_eq_true] at c
   obtain ⟨ol,el⟩:=part_of c.1
   obtain ⟨ou,eu⟩:=part_of c.2
   refine ⟨μ1,Z,M1,hE1,hM1,?_⟩
   rw [e2]
   refine ⟨ol,c.1,el,fun H2 μ2 x2 hM2=>⟨μ2,Z,M2,hE1.ext x2,hM2,?_⟩⟩
   rw [e3]
   refine ⟨ou,c.2,eu,fun H3 μ3 x3 hM3=>?_⟩
   cases x with
   | str z =>
     obtain rfl:v=.str z:=r1
     dsimp only at h3
     split at h3
     ·next hz=>
      simp only [pA,el,eu,Option.map_some] at h3
      exact ⟨z,rfl,by rw [<- dQ];exact hz,bE (v:=.str _) hM3 (bH.ext h3 ((x1.trans x2).trans x3)) rfl⟩
     ·exact h3.elim
   |_=>exact h3.elim
  ·exact h3.elim
def signs (z:Str):List D:=z.cps.toList.map fun c=>.str ⟨#[c]⟩
def IG (z:Str):It:=⟨fun i _=>i<z.cps.size,fun i H x H'=>H'=H/\∃c,z.cps[i]?=some c/\x=.str ⟨#[c]⟩,fun i _=>z.cps.size<=i⟩
theorem uh {P:Program}{w:World}{K:PySem.W.Frag}{n:String}(hn:["enumerate","zip","dict_itemiterator","dict_reverseitemiterator","odict_iterator","itertools.zip_longest","itertools.pairwise"].contains n=false)(it:Addr)(z:Str)(t:Tok)
 (W:∀A':Around,A'.handled=none->Walks P w A' it [it] [it] z.cps.size (SignAt z) (fun i h=>h.IsStrIter it n z t i))
 (S:∀(A:Around) (i:Nat) (s:Shared) (Q:Value->Shared->Prop) (E:Value->Shared->Prop),s.heap.IsStrIter it n z t i->Q (.ref it) s->wpAny (model P w) A (pyIter (.ref it)) Q E s)
 (D:∀(A:Around) (hh:A.handled=none) (i:Nat) (s:Shared) (Q:Option Value->Shared->Prop) (E:Value->Shared->Prop),s.heap.IsStrIter it n z t i->z.cps.size<=i->(∀h',(∀b o,b≠it->s.heap.get? b=some o->h'.get? b=some o)->Q none {s with heap:=h'})->wpAny (model P w) A (pyNext (.ref it)) Q E s) :
 Turn P w K tg (IG z) [it] it (fun i h=>h.IsStrIter it n z t i) where
 mem:=by simp
 obj:=fun i h st b hb=>by
  have e:b=it:=by simpa using hb
  subst e
  obtain ⟨o,e,c,d⟩:=st
  exact ⟨o,e,fun v z=>by rw [d] at z;cases z⟩
 keep:=fun i h h' st k=>let ⟨o,e,r⟩:=st;⟨o,k it (by simp) o e,r⟩
 item:=by
  intro X hP hw hK hc i pins s σ H E I hf st hg
  subst hP hw hK
  obtain ⟨f0,f1,f2,f3,f4,f5⟩:=hf it (by simp)
  refine (W X.A (I.ok.hd hc)).item i s _ _ hg st fun v h' tk hv st' kk=>?_
  obtain ⟨c,u,hc',rfl⟩:=hv
  have I1:Inv X pins σ H {s with heap:=h',toks:=tk}:=I.turned (fun b o hb e=>kk b o (by simpa using hb) e) f0 f1 f3 f4 f5
  obtain ⟨o,e,co,d⟩:=id st'
  exact ⟨_,rfl,t8 (s:={s with heap:=h',toks:=tk}) e co d hn ⟨.str ⟨#[c]⟩,H,I1,⟨u,rfl⟩,⟨rfl,c,hc',rfl⟩,st',fun b hb=>(hf b hb).1⟩⟩
 done:=by
  intro X hP hw hK hc i pins s σ H E I hf st hg
  subst hP hw hK
  obtain ⟨f0,f1,f2,f3,f4,f5⟩:=hf it (by simp)
  exact D X.A (I.ok.hd hc) i s _ _ st hg fun h' eb=>⟨rfl,I.turned (t':=s.toks) (fun b o hb e=>eb b o hb e) f0 f1 f3 f4 f5⟩
 self:=fun A i s Q E st h=>S A i s Q E st h
theorem FZ {l:Expr}{tl:TE}(hl:PE X l tl):PI X tg l (fun σ H R=>tl σ H fun x H1=>∃z,x=.str z/\R (IG z) H1):=by
 intro pins s σ H R I h
 refine bp (hl pins s σ H _ I h) fun v s1 ⟨x,H1,I1,r1,q1⟩=>?_
 obtain ⟨z,rfl,q⟩:=q1
 obtain ⟨t,rfl⟩:=r1
 have fp:∀b∈[s1.heap.objs.size],gW X pins H1 b:=fun b hb=>by
  have e:b=s1.heap.objs.size:=by simpa using hb
  subst e
  exact I1.fpOk (tqg _) (I1.hok.fresh (tqg _))
 cases ha:z.cps.all (· < 128)
 ·refine wpAny_pyIter_wide ha ?_
  exact ⟨s1.heap.objs.size,[s1.heap.objs.size],_,_,H1,rfl,I1.kept (t':=s1.toks) fun b o e=>tqc _ e,uh (n:="str_iterator") rfl _ z t (fun A' h=>Walks.strWide h _ z t) (fun A i s Q E st h=>wpAny_pyIter_striter_wide st h) (fun A hh i s Q E st hi k=>wpAny_pyNext_wide_end hh st (by simp;omega) k),⟨_,tqe _ rfl,rfl,rfl⟩,fp,q⟩
 ·refine wpAny_pyIter_ascii ha ?_
  exact ⟨s1.heap.objs.size,[s1.heap.objs.size],_,_,H1,rfl,I1.kept (t':=s1.toks) fun b o e=>tqc _ e,uh (n:="str_ascii_iterator") rfl _ z t (fun A' h=>Walks.strAscii h _ z t) (fun A i s Q E st h=>wpAny_pyIter_striter_ascii st h) (fun A hh i s Q E st hi k=>wpAny_pyNext_ascii_end hh st (by simp;omega) k),⟨_,tqe _ rfl,rfl,rfl⟩,fp,q⟩
def qE (ga:GE):Env->Mem->Res Walk:=fun Z M=>(ga Z M).bind fun x M=>match x with
 |.str z=>.ok (fun _=>some (signs z)) M
 |_=>.bad
theorem AK {μ0:Mu}{H0:Hp}(z:Str):eD fa X.K μ0 H0 (fun _=>some (signs z)) (IG z):=fun μ H M ds x hM e=>by
 cases e
 refine ⟨fun i d hd=>?_,fun i hi=>(show z.cps.size<=i by simpa [signs] using hi)⟩
 have hd:(signs z)[i]?=some d:=hd
 unfold signs at hd
 rw [List.getElem?_map] at hd
 cases e:z.cps.toList[i]? with
 |none=>rw [e] at hd;cases hd
 | some c =>
   rw [e] at hd
   have e':D.str ⟨#[c]⟩=d:=Option.some.inj hd
   subst e'
   have e2:z.cps[i]?=some c:=by simpa using e
   refine ⟨(Array.getElem?_eq_some_iff.mp e2).1,fun y H' ⟨e1,c',e3,e4⟩=>?_⟩
   rw [e2] at e3
   cases e3
   subst e1 e4
   exact ⟨.refl,hM,rfl⟩
theorem EL (ha:DE fa X a ga):DI fa X tg a (qE ga):=fun pins s σ H R I ⟨μ,Z,M,hE,hM,h⟩=>by
 obtain ⟨x,M1,e,q⟩:=a9 h
 refine FZ ha pins s σ H R I ⟨μ,Z,M,hE,hM,?_⟩
 rw [e]
 intro v H1 μ1 x1 m1 r1
 cases x with
 | str z =>
   obtain rfl:v=.str z:=r1
   exact ⟨z,rfl,q _ H1 μ1 x1 m1 (AK z)⟩
 |_=>exact q.elim
end
end LD
namespace LD
open PySem PySem.Spec PySem.Calls PyProof.Rows PySem.W
section
variable {prog:Program}{w:World}{A:Around}{E:Value->Shared->Prop}{s:Shared}{K:Frag}{x C:Addr}{ox:Obj}{od:Option Obj}{name:Str}
def mj (K:Frag)(C:Addr):Bool:=findIn K (.ref C) "__getattribute__"==some (some (.builtin "BaseException.__getattribute__"))&&findIn K (.ref C) "__getattr__"==some none&&mroIn K C (.type "BaseException")==some true&&mroIn K C (.type "object")==some true &&
 findIn K (.ref C) "__class__"==some (some (.builtin "object.__class__"))&&specialIn K (.builtin "object.__class__") "__get__"==some (some (.builtin "getset_descriptor.__get__"))&&takesIn K (.builtin "object.__class__")==some true
def LY (prog:Program)(w:World)(A:Around)(x C:Addr)(Q:Value->Shared->Prop)(E:Value->Shared->Prop)(s:Shared):Builtin.ObjectAttr.Found->Prop
 |.value v=>wpAny (model prog w) A (handedOut v) Q E s
 |.bind g a=>wpAny (model prog w) A.in1 (call g [a,.ref x,.ref C]) (fun v s'=>wpAny (model prog w) A (handedOut v) Q E s') (fun _ _=>False) s
 |.missing=>False
theorem wJ {r:Builtin.ObjectAttr.Found}{tk:Tok}{fill expr:Bool}{Q:Value->Shared->Prop}(X:K.In s.heap)(I:InstAt s.heap x ox C od)(hg:mj K C=true)(hf:findObj K C od name=some r)
 (h:LY prog w A x C Q E s r) :
 wpAny (model prog w) A (getAttrBy (.ref x) (.str name tk) fill expr) Q E s:=by
 unfold mj at hg
 simp only [Bool.and_eq_true,beq_iff_eq] at hg
 obtain ⟨⟨⟨⟨⟨⟨hga,hgn⟩,hmB⟩,hmO⟩,_⟩,_⟩,_⟩:=hg
 obtain ⟨hh,g,d,t,os⟩:=s
 have L0:=I.type (M:=model prog w)
 have L1:=looks_findIn (M:=model prog w) X hga
 have L2:=looks_findIn (M:=model prog w) X hgn
 have L3:=looks_find (M:=model prog w) X I hf
 have L4:=looks_mroIn (M:=model prog w) X hmB
 have hx2:(Value.builtin "BaseException.__getattribute__"==Value.builtin "object.__getattribute__")=false:=by decide +kernel
 have hk:builtinKind "BaseException.__getattribute__"=some .slot:=by decide +kernel
 have hsplit:splitId "BaseException.__getattribute__"=some ("BaseException","__getattribute__"):=by decide +kernel
 unfold getAttrBy
 refine tqo (tqa (L0.at (tqa (L1.at ?_))))
 show wpAny _ _ (if (true&&Value.builtin "BaseException.__getattribute__"==Value.builtin "object.__getattribute__")=true then _ else _) _ _ _
 rw [hx2,if_neg (by decide)]
 unfold getAttrByItsOwn
 refine tqa (show wpAny _ _ (typeLookup (.ref C) "__getattr__") _ _ _ from L2.at (tqa (wpAny_attempt (tqo ?_))))
 unfold callGetattribute
 rw [if_neg (by cases expr<;>decide)]
 unfold boundAndCalled
 refine tqa (wpAny_of_eq (PySem.F.excAttr_ValueError.ga.bind (.ref x)) ?_)
 refine wpAny_call (codeAny_call_builtin PySem.F.excAttr_ValueError.ga.plain F.entry_bexc_ga ?_)
 simp only [checkBuiltinCall,hk,hsplit]
 refine tqa (show wpAny _ _ (isInstance (.ref x) (.type "BaseException")) _ _ _ from tqa (L0.at (L4.at ?_)))
 have ha:=F.args_bexc_ga (.ref x) (.str name tk)
 repeat (any_goals (first|assumption|wp_step))
 refine wpAny_loadPart_at I.at_ (tqb ?_)
 rw [I.cls]
 refine tqa (L3.at ?_)
 cases r with
 |value v=>exact tqb h
 | bind g a =>
   show wpAny _ _ (holding [a] (call g [a,.ref x,.ref C]) >>= ret) _ _ _
   exact tqa (tqo (wpAny_mono h (fun v s' z=>tqb z) fun _ _ z=>z.elim))
 |missing=>exact h.elim
theorem Ac {Q:Option Value->Shared->Prop}(X:K.In s.heap)(I:InstAt s.heap x ox C od)(hg:mj K C=true)(h:Q (some (.ref C)) {s with toks:=s.toks+1}):wpAny (model prog w) A (getAttr? (.ref x) "__class__") Q E s:=by
 have hg':=hg
 unfold mj at hg'
 simp only [Bool.and_eq_true,beq_iff_eq] at hg'
 obtain ⟨⟨⟨⟨⟨⟨_,_⟩,_⟩,hm⟩,ha⟩,hn⟩,htk⟩:=hg'
 have hf:findObj K C od "__class__"=some (.bind (.builtin "getset_descriptor.__get__") (.builtin "object.__class__")):=by
  obtain ⟨cd,hc,_⟩:=Option.bind_eq_some_iff.mp hm
  unfold findObj
  rw [hc,Option.bind_some,ha,Option.bind_some]
  simp [hn,htk]
 unfold getAttr? getAttrBy?
 refine tqa (wpAny_mkText (tqa (wpAny_attempt (wJ (s:={s with toks:=s.toks+1}) (r:=.bind (.builtin "getset_descriptor.__get__") (.builtin "object.__class__")) X I hg hf ?_))))
 exact wpAny_call (class_get (s:={s with toks:=s.toks+1}) (ox:=ox) (od:=od) X I hm (handed_on rfl (tqb h)))
theorem Ez {c:Value}{Q:Value->Shared->Prop}(X:K.In s.heap)(I:InstAt s.heap x ox C od)(hg:mj K C=true)(hty:∀(M:Model) h',K.In h'->Looks M h' (typeOf c) (.type "type"))(his:∀(M:Model) h',K.In h'->Looks M h' (isType c) true)
 (hne:(Value.ref C==c)=false) (hsub:∀(M:Model) h',K.In h'->Looks M h' (isSubtype (.ref C) c) false) (h:Q (.bool false) {s with toks:=s.toks+1}):wpAny (model prog w) A (call (.builtin "isinstance") [.ref x,c]) Q E s:=by
 refine call_isinstance_of ?_ (by intro q;cases q)
 have hisD:Looks (model prog w) s.heap (isType (.ref C)) true:=by
  have hg':=hg
  unfold mj at hg'
  simp only [Bool.and_eq_true,beq_iff_eq] at hg'
  obtain ⟨cd,hc,_⟩:=Option.bind_eq_some_iff.mp hg'.1.1.1.2
  unfold clsIn at hc
  split at hc
  ·rename_i c' d' cd' sl' ho
   intro A' Q' E' s' k q
   unfold isType loadHead
   exact tqa (wpAny_loadPart (k _ _ (X _ _ ho)) (tqb q))
  ·cases hc
 have hty:=hty (model prog w) s.heap X
 have his:=his (model prog w) s.heap X
 have hsub:=hsub (model prog w) s.heap X
 obtain ⟨h0,g,d,tt,os⟩:=s
 have L0:=I.type (M:=model prog w)
 have LI:Looks (model prog w) h0 (isInstance (.ref x) c) false:=L0.andThen hsub
 unfold Builtin.«isinstance.nested»
 refine tqa (L0.at ?_)
 rw [if_neg (fun q=>by rw [hne] at q;exact Bool.noConfusion q)]
 refine tqa (hty.at ?_)
 rw [if_pos (by decide)]
 k_delta "plainIsInstance"
 refine tqa (tqa (his.at ?_))
 simp only [Bool.not_true,Bool.false_eq_true,if_false]
 refine tqa (LI.at ?_)
 simp only [Bool.false_eq_true,if_false]
 refine tqa (Ac X I hg ?_)
 refine tqa (hisD.at ?_)
 simp only [Bool.not_true,Bool.false_eq_true,if_false]
 refine tqa (wpAny_rule ?_)
 refine hsub.at ?_
 exact tqb h
theorem B5 {D:Addr}{Q:Value->Shared->Prop}(X:K.In s.heap)(I:InstAt s.heap x ox C od)(hg:mj K C=true)(e:kin_not K C D=true)(h:Q (.bool false) {s with toks:=s.toks+1}):wpAny (model prog w) A (call (.builtin "isinstance") [.ref x,.ref D]) Q E s:=by
 unfold kin_not at e
 rw [Bool.and_eq_true,Bool.and_eq_true,Bool.and_eq_true] at e
 obtain ⟨⟨⟨e0,e1⟩,e2⟩,e3⟩:=e
 refine Ez X I hg (fun _ h' X'=>looks_typeIn X' (beq_iff_eq.mp e2)) (fun _ h' X'=>?_) ?_ (fun _ h' X'=>looks_subIn X' (beq_iff_eq.mp e3)) h
 ·unfold clsIn at e1
  split at e1
  ·rename_i c' d' cd' sl' ho
   intro A' Q' E' s' k q
   unfold isType loadHead
   exact tqa (wpAny_loadPart (k _ _ (X' _ _ ho)) (tqb q))
  ·cases e1
 ·exact Bool.eq_false_iff.mpr fun q=>of_decide_eq_true e0 (Value.ref.inj (beq_iff_eq.mp q))
theorem EA {T:String}{Q:Value->Shared->Prop}(X:K.In s.heap)(I:InstAt s.heap x ox C od)(hty:typeOf (.type T)=pure (.type "type"))(hm:mroIn K C (.type T)=some true)(h:Q (.bool true) s):wpAny (model prog w) A (call (.builtin "isinstance") [.ref x,.type T]) Q E s:=by
 refine call_isinstance_of ?_ (by intro q;cases q)
 have L1:=looks_mroIn (M:=model prog w) X hm
 obtain ⟨h0,g,d,tt,os⟩:=s
 have L0:=I.type (M:=model prog w)
 have LI:Looks (model prog w) h0 (isInstance (.ref x) (.type T)) true:=L0.andThen L1
 unfold Builtin.«isinstance.nested»
 refine tqa (L0.at ?_)
 rw [if_neg (by intro q;cases beq_iff_eq.mp q)]
 refine tqa (wpAny_of_eq hty ?_)
 rw [if_pos (by decide)]
 k_delta "plainIsInstance"
 refine tqa (tqa (wpAny_of_eq (a:=true) rfl ?_))
 simp only [Bool.not_true,Bool.false_eq_true,if_false]
 refine tqa (LI.at ?_)
 simp only [if_true]
 exact tqb (tqb h)
end
end LD
namespace LD
open PySem PySem.Spec PyProof.Rows L2
def fM (f:Nat)(c:Call)(s:GA):GE:=fun Z M=>match s Z M with
 |.ok ds M=>c f ds M
 |_=>.bad
def Fd (k:D->Mem->Res Fl)(Z:Env):Res D->Res Fl
 |.ok d M=>k d M
 |.err x M=>.ok (.exc x Z) M
 |.bad=>.bad
def lM (a:GE):GS:=fun Z M=>Fd (fun _ M=>.ok (.next Z) M) Z (a Z M)
def mC (t:dv)(a:GE):GS:=fun Z M=>Fd (fun x M=>(cZ M (cX t x Z)).bind fun ρ1 M=>.ok (.next ρ1) M) Z (a Z M)
def kI (c:Nat)(s:GA):GS:=fun Z M=>match s Z M with
 |.ok ds M=>if ds.length<=sz then .ok (.exc (.exc c none) Z) M else .bad
 |_=>.bad
def cS (o:Option Nat)(a:GE):GE:=fun Z M=>(a Z M).bind fun x M=>match x with
 |.exc c _=>.ok (.bl (match o with|some k=>k==c|none=>true)) M
 |_=>.bad
def AH (i:Nat):Fl->Mem->Res Fl
 |.next Z,M=>.ok (.next (Z.set i none)) M
 |.ret d,M=>.ok (.ret d) M
 |.exc _ _,_=>.bad
def Ky (i:Nat)(h:GS):Fl->Mem->Res Fl
 |.exc x Z,M=>(h (Z.set i (some x)) M).bind (AH i)
 |fl,M=>.ok fl M
def uK (b:GS)(i:Nat)(h:GS):GS:=fun Z M=>(b Z M).bind (Ky i h)
def tEx (fa:Fa)(X:Cx)(g:GE):TE:=fun σ H Q=>∃μ Z M,bK fa X.K μ H σ Z/\RelM fa X.K μ H M/\kQ (g Z M) (bH fa X.K μ H Q) (fun x M'=>XW fa X μ H x Z M')
abbrev DX (fa:Fa)(X:Cx)(e:Expr)(g:GE):Prop:=PE X e (tEx fa X g)
section
variable {fa:Fa}{X:Cx}{a b:Expr}{ga gb:GE}{ta:GT}{pos p:Pos}{es:List Expr}{gs:GA}{n:Nat}
theorem x_call (f:Nat){x:Str}{call:Call}(C:∀f,g9 fa X.prog X.w X.K X.mg X.base n f (call f))(hr:cy (n+4) X.A)(hex:X.ex=[])(hg:Gl X x)(hm:∀ad,fa f=some ad->X.mg x=some (.ref ad))(hs:DA fa X (a::es) gs)
 (hdb:(x==("__debug__":Str))=false) (he:notStar a=true) (hpl:es.all notStar=true):DX fa X (.Call (.Name x p) (a::es) [] pos) (fM f call gs):=by
 intro pins s σ H Q I ⟨μ,Z,M,hE,hM,h⟩
 unfold fM at h
 cases eg:gs Z M with
 |err=>rw [eg] at h;exact h.elim
 |bad=>rw [eg] at h;exact h.elim
 | ok ds M1 =>
   rw [eg] at h
   have h:kQ (call f ds M1) (bH fa X.K μ H Q) (fun x M'=>XW fa X μ H x Z M'):=h
   rcases C f with hb|⟨ad,fd,ps,h1,h2,h3,h4,F⟩
   ·rw [hb] at h;exact h.elim
   ·have hl:ds.length=ps.length:=by
     by_cases hl:ds.length=ps.length
     ·exact hl
     ·rw [h4 ds M1 hl] at h;exact h.elim
    refine wpAny_Call_Name_kw (jq I hg (hm ad h1) ?_ hdb)
    refine PySem.W.callWith_K (h₀:=X.base) I.ok.mod.kin h2 (bp (hs pos pins s σ H (fun vs H1=>∃μ1,Ext μ H μ1 H1/\RelM fa X.K μ1 H1 M1/\aX fa X.K μ1 H1 ds vs) I ⟨μ,Z,M,hE,hM,by rw [eg];exact fun vs H1 μ1 x1 m1 r1=>⟨μ1,x1,m1,r1⟩⟩) fun us s1 ⟨vs,H1,I1,r,μ1,x1,m1,r1⟩=>⟨I1.kIn,?_⟩) (cI he) (dX hpl)
    have hsp:Fn fa X.K ps.length (call f) vs H1 Q fun Cv dx H'=>∃y M' μ' C' c p,Cv=.ref C'/\Ext μ1 H1 μ' H'/\RelM fa X.K μ' H' M'/\y=.exc c p/\fa (du c)=some C'/\yt H' c dx p/\XW fa X μ H y Z M':=by
     refine ⟨by rw [r1.length];exact hl,μ1,M1,ds,m1,r1,?_⟩
     cases ec:call f ds M1 with
     |ok d M2=>rw [ec] at h;exact bH.ext h x1
     |err y M2=>rw [ec] at h;exact fun C dx c p H' μ' y' m ex hc hn=>⟨_,M2,μ',C,c,p,rfl,y',m,ex,hc,hn,h⟩
     |bad=>rw [ec] at h;exact h.elim
    have hl2:us.length=ps.length:=by rw [<- r.length,r1.length];exact hl
    have hb:=h3 s1 us I1.kIn (by simpa using hl2)
    rw [List.append_nil] at hb
    refine wpAny_call (codeAny_mono (F.run X.A X.stack s1 H1 ⟨us,[]⟩ us vs Q _ hr I1.env0 hb r hsp) fun r' s' hq=>?_)
    cases r' with
    | error e =>
      unfold CR at hq
      dsimp only at hq
      obtain ⟨a',C',dx,H',rfl,I',fl,y,M',μ',C2,c,p,ec,ye,m',ey,hc,hn,hw⟩:=zT I1 hex hq
      cases ec
      exact hw pins σ H' μ' s' a' C' dx c p I' (x1.trans ye) ((hE.ext x1).ext ye) m' ey hc hn fl
    | ok fl =>
      cases fl with
      |ret u=>exact I1.after hq
      |next=>exact False.elim hq
      |brk=>exact False.elim hq
      |cont=>exact False.elim hq
theorem I9 (ha:DX fa X a ga)(hs:swapsWith a none pos.line X.env=pure false):DS fa X (.Expr a pos) (lM ga):=
 iK (rf ha hs) fun D' σ H ⟨μ,Z,M,hE,hM,h⟩=>⟨μ,Z,M,hE,hM,by
  unfold lM at h
  cases e:ga Z M with
  |ok d M1=>rw [e] at h;exact fun v H1 μ1 x1 m1 r1=>h σ H1 μ1 x1 (hE.ext x1) m1
  |err x M1=>rw [e] at h;exact h
  |bad=>rw [e] at h;exact h.elim⟩
theorem Fz {tg:Expr}{t:dv}(ha:DX fa X a ga)(hg:PG X tg (gT fa X.K t))(hs:swapsWithSole [tg] a pos.line X.env=pure false)(hw:swappedStores [tg] a X.env=pure none)(h1:(assignEach [tg] X.env).map (·.2)=[assign tg X.env]) :
 DS fa X (.Assign [tg] a pos) (mC t ga):=
 iK (uQ ha hg hs hw h1) fun D σ H ⟨μ,Z,M,hE,hM,h⟩=>⟨μ,Z,M,hE,hM,by
  unfold mC at h
  cases e:ga Z M with
  | ok d M1 =>
    rw [e] at h
    obtain ⟨ρ1,M2,e',q⟩:=a9 h
    cases eb:cX t d Z with
    |none=>rw [eb] at e';cases e'
    | some ρ2 =>
      rw [eb] at e'
      cases e'
      exact fun v H1 μ1 x1 m1 r1=>⟨μ1,Z,_,d,ρ1,hE.ext x1,m1,r1,eb,fun σ1 hE2=>q σ1 H1 μ1 x1 hE2 m1⟩
  |err x M1=>rw [e] at h;exact h
  |bad=>rw [e] at h;exact h.elim⟩
end
abbrev mT:List Value:=[.type "ValueError",.type "Exception",.type "BaseException",.type "object"]
theorem B7 {K:PySem.W.Frag}{h:Heap}{C:Addr}{bmB:List Value}{newId:String}(X:K.In h)(q:PySem.W.excIn K C bmB newId=true) :
 ∃bm N nm q bs hdct sn sub ab col dd k0 k1 k2 k3 k5 mN,h.get? C=some (excClassObj nm q C N bs bm hdct sn sub ab col dd k0 k1 k2 k3 k5 newId)/\h.Ns N mN/\mN "__init__"=none/\OwnTail h bmB bm:=by
 unfold PySem.W.excIn at q
 split at q
 ·rename_i dd cd sl ho
  split at q
  ·rename_i C' bm k0 k1 k2 k3 n k5 hm hs
   simp only [Bool.and_eq_true,beq_iff_eq,Bool.not_eq_true'] at q
   obtain ⟨⟨⟨⟨⟨rfl,rfl⟩,hdel⟩,ht⟩,hok⟩,hni⟩:=q
   obtain ⟨nm,bs,mro,ns,qn,hd,sn,sub,ab,col,del⟩:=cd
   dsimp only at hm hdel hok hni
   subst hm hdel
   have hsl:sl=#[k0,k1,k2,k3,some (.builtin n),k5]:=by
    obtain ⟨l⟩:=sl
    simp only at hs
    rw [hs]
   subst hsl
   exact ⟨bm,ns,nm,qn,bs,hd,sn,sub,ab,col,dd,k0,k1,k2,k3,k5,_,X _ _ ho,.of_isNs (PySem.W.isNs_of_in X hok),PySem.W.nsMap_none_of_in X hok hni,PySem.W.tail_of_in X ht⟩
  ·cases q
 ·cases q
theorem zG {P:Program}{w:World}{H:Hp}{h:Heap}{a:Addr}{o:HO}(x:di P w H h a o):∃ob,h.get? a=some ob:=by
 cases o with
 |lst xs=>obtain ⟨_,_,_,_,e⟩:=x;exact ⟨_,e⟩
 |tup xs=>obtain ⟨_,_,_,ob,e,_⟩:=x;exact ⟨_,e⟩
 |dK kvs=>obtain ⟨_,_,_,_,o,_,_,e,_⟩:=x;exact ⟨_,e⟩
 |dT kvs=>obtain ⟨_,_,_,_,o,_,_,e,_⟩:=x;exact ⟨_,e⟩
 |set S n=>obtain ⟨o,_,_,_,e,_⟩:=x;exact ⟨_,e⟩
 |ins C dx fs=>obtain ⟨_,_,_,e,_⟩:=x;exact ⟨_,e⟩
 |own y=>exact x
 |xd fs=>obtain ⟨_,⟨_,_,_,e,_⟩,_⟩:=x;exact ⟨_,e⟩
 |rng lo hi=>obtain ⟨_,_,_,e⟩:=x;exact ⟨_,e⟩
 |frz ob u=>obtain ⟨e,_⟩:=x;exact ⟨_,e⟩
 |tbl ps=>exact ⟨_,x⟩
 |met f y=>exact ⟨_,x⟩
 |ext φ=>obtain ⟨_,e,_⟩:=x;exact e
theorem pJ {X:Cx}{pins:List (Addr×Obj)}{σ:L2.St}{H:Hp}{s:Shared}(I:Inv X pins σ H s)(hex:X.ex=[]){e:Addr}(hn:s.heap.get? e=none):n6 X e/\H e=none:=by
 refine ⟨⟨?_,fun p hp z=>?_⟩,?_⟩
 ·cases q:X.s₀.heap.get? e with
  |none=>rfl
  | some o =>
    obtain ⟨o',e'⟩:=I.base.there e o q (by rw [hex];simp)
    rw [hn] at e';cases e'
 ·have:=(I.pin p (List.mem_append_left _ hp)).1
  rw [z,hn] at this;cases this
 ·cases q:H e with
  |none=>rfl
  | some u =>
    obtain ⟨ob,z⟩:=zG (I.hok e u q)
    rw [hn] at z;cases z
section
variable {fa:Fa}{X:Cx}{a b:Expr}{ga gb:GE}{ta:GT}{pos p:Pos}{es:List Expr}{gs:GA}{n:Nat}
theorem Dx (c:Nat){x:Str}{np cpos:Pos}(hx:∃C,X.mg x=some (.ref C)/\fa (du c)=some C/\PySem.W.excIn X.K C mT "ValueError.__new__"=true)(hex:X.ex=[])(hg:Gl X x)(hc:X.calm=true)(hs:DA fa X (a::es) gs)
 (hdb:(x==("__debug__":Str))=false) (he:notStar a=true) (hpl:es.all notStar=true):DS fa X (.Raise (some (.Call (.Name x np) (a::es) [] cpos)) none pos) (kI c gs):=by
 intro pins s σ H D' I ⟨μ,Z,M,hE,hM,h⟩
 obtain ⟨C,hmC,hfC,hin⟩:=hx
 obtain ⟨bm,N,nm,q,bs,hdct,sn,sub,ab,col,dd,k0,k1,k2,k3,k5,mN,hC,hN,hni,T⟩:=B7 I.ok.mod.kin hin
 unfold kI at h
 cases eg:gs Z M with
 |err=>rw [eg] at h;exact h.elim
 |bad=>rw [eg] at h;exact h.elim
 | ok ds M1 =>
   rw [eg] at h
   dsimp only at h
   split at h
   ·next hz=>
    have h:XW fa X μ H (.exc c none) Z M1:=h
    refine wpAny_Raise_call_subT (nm:=nm) (q:=q) (N:=N) (bs:=bs) (hdct:=hdct) (sn:=sn) (sub:=sub) (ab:=ab) (col:=col) (dd:=dd) (k0:=k0) (k1:=k1) (k2:=k2) (k3:=k3) (k5:=k5) PySem.F.excBase_ValueError (T.hasType (by decide +kernel)) (I.ok.hd hc) (dX (es:=a::es) (by simp [he,hpl])) hni (jq I hg hmC ⟨rfl,?_⟩ hdb)
    have ar:=bp (hs cpos pins s σ H (fun vs H1=>∃μ1,Ext μ H μ1 H1/\RelM fa X.K μ1 H1 M1/\aX fa X.K μ1 H1 ds vs) I ⟨μ,Z,M,hE,hM,by rw [eg];exact fun vs H1 μ1 x1 m1 r1=>⟨μ1,x1,m1,r1⟩⟩) (Q':=fun us s2=>([]:List (Str×Value))=[]/\us.length<=sizeLine/\s2.heap.get? C=some (excClassObj nm q C N bs bm hdct sn sub ab col dd k0 k1 k2 k3 k5 "ValueError.__new__")/\s2.heap.Ns N mN/\OwnTail s2.heap mT bm/\∀h' e,Heap.MadeExcOf s2.heap h' e (.ref C) us->X.xe (.ref e) {s2 with heap:=h'}) fun us s1 ⟨vs,H1,I1,r,μ1,x1,m1,r1⟩=>by
     refine ⟨rfl,?_,I1.bk _ _ hC,hN.keeps I1.bk,T.keeps I1.bk,fun h' e hm=>?_⟩
     ·rw [<- r.length,r1.length,<- dQ];exact hz
     ·obtain ⟨t,ht,_,_⟩:=hm.there
      obtain ⟨n1,n2⟩:=pJ I1 hex hm.new
      exact h pins σ H1 μ1 {s1 with heap:=h'} e C none c none (I1.kept (t':=s1.toks) hm.keeps) x1 (hE.ext x1) m1 rfl hfC rfl ⟨n1,n2,_,_,ht,rfl,rfl,rfl,.inl rfl⟩
    rw [cI he] at ar ⊢
    exact PySem.Calls.evalArgs_plain ar
   ·exact h.elim
end
end LD
namespace LD
open PySem PySem.Spec PyProof.Rows L2
structure lG (fa:Fa) (K:PySem.W.Frag):Prop where
 g:∀c C,fa (du c)=some C->mj K C=true/\PySem.W.mroIn K C (.type "ValueError")=some true/\PySem.W.isIn K (.ref C) C=true
 d:∀c C D,fa (du c)=some C->fa 999=some D->PySem.W.isIn K (.ref C) D=true/\PySem.W.mroIn K C (.ref D)=some true/\PySem.W.mroIn K D (.type "BaseException")=some true/\PySem.W.typeIn K (.ref D)=some (.type "type")
 n:∀c C c' C',fa (du c)=some C->fa (du c')=some C'->c'≠c->PySem.W.kin_not K C C'=true
section
variable {fa:Fa}{X:Cx}{pins:List (Addr×Obj)}{σ:L2.St}{H:Hp}{s:Shared}{μ:Mu}
theorem rN (I:Inv X pins σ H s){c:Nat}{p:Option Int}{v:V}(r:Rep fa X.K μ H (.exc c p) v):∃a C ox od,v=.ref a/\fa (du c)=some C/\PySem.W.InstAt s.heap a ox C od:=by
 obtain ⟨a,C,dx,rfl,hf,hH,hn⟩:=r
 obtain ⟨⟨o,vs,h1,h2,h3,h4,h5⟩,_,_⟩:=I.hok a _ hH
 have hc:PySem.W.notCls o=true:=by unfold PySem.W.notCls;rw [h4]
 cases p with
 | none =>
   have hn:dx=none:=hn
   exact ⟨a,C,o,none,rfl,hf,h1,h2,hc,by rw [h3,hn];trivial⟩
 | some i =>
   obtain ⟨d,rfl,hd⟩:=hn
   obtain ⟨mA,⟨od,es,ep,e,_⟩,_⟩:=I.hok d _ hd
   exact ⟨a,C,o,some od,rfl,hf,h1,h2,hc,by rw [h3];exact e⟩
def qf (fa:Fa)(K:PySem.W.Frag)(o:Option Nat)(w:V)(xs:List V)(H:Hp)(Q:VK):Prop:=∃μ c p v,xs=[v,w]/\Rep fa K μ H (.exc c p) v/\Q (.bl (match o with|some k=>k==c|none=>true)) H
theorem Et (hc:lG fa X.K){k:Nat}{D:Addr}(hD:fa (du k)=some D):dj X (.builtin "isinstance") (qf fa X.K (some k) (.ref D)):=by
 intro pins s σ H xs us Q I r h
 obtain ⟨μ,c,p,v,rfl,hv,q⟩:=h
 obtain ⟨u,w,rfl,r1,r2⟩:=vals2 r
 obtain rfl:w=Value.ref D:=r2
 obtain ⟨a,C,ox,od,rfl,hf,IA⟩:=rN I hv
 obtain rfl:u=Value.ref a:=r1
 dsimp only at q
 by_cases hb:k=c
 ·subst hb
  rw [hD] at hf;cases hf
  rw [beq_self_eq_true] at q
  exact PySem.W.isi_call I.kIn (fun M=>IA.type) (hc.g k D hD).2.2 (by intro z;cases z) ⟨.bl true,H,I,rfl,q⟩
 ·rw [beq_eq_false_iff_ne.mpr hb] at q
  exact B5 I.kIn IA (hc.g c C hf).1 (hc.n c C k D hf hD hb) ⟨.bl false,H,I.tok _,rfl,q⟩
theorem Ew (hc:lG fa X.K){D:Addr}(hD:fa 999=some D):dj X (.builtin "isinstance") (qf fa X.K none (.ref D)):=by
 intro pins s σ H xs us Q I r h
 obtain ⟨μ,c,p,v,rfl,hv,q⟩:=h
 obtain ⟨u,w,rfl,r1,r2⟩:=vals2 r
 obtain rfl:w=Value.ref D:=r2
 obtain ⟨a,C,ox,od,rfl,hf,IA⟩:=rN I hv
 obtain rfl:u=Value.ref a:=r1
 exact PySem.W.isi_call I.kIn (fun M=>IA.type) (hc.d c C D hf hD).1 (by intro z;cases z) ⟨.bl true,H,I,rfl,q⟩
theorem Eu (hc:lG fa X.K):dj X (.builtin "isinstance") (qf fa X.K none (.ty "ValueError")):=by
 intro pins s σ H xs us Q I r h
 obtain ⟨μ,c,p,v,rfl,hv,q⟩:=h
 obtain ⟨u,w,rfl,r1,r2⟩:=vals2 r
 obtain rfl:w=Value.type "ValueError":=r2
 obtain ⟨a,C,ox,od,rfl,hf,IA⟩:=rN I hv
 obtain rfl:u=Value.ref a:=r1
 exact EA I.kIn IA (by kernel_rfl) (hc.g c C hf).2.1 ⟨.bl true,H,I,rfl,q⟩
end
section
variable {fa:Fa}{X:Cx}{a:Expr}{ga:GE}{pos p1 p2:Pos}{x:Str}
theorem rO {o:Option Nat}{w:V}{σ:L2.St}{H:Hp}{Q:VK}(h:tE fa X.K (cS o ga) σ H Q):tE fa X.K ga σ H fun v H1=>qf fa X.K o w [v,w] H1 Q:=by
 obtain ⟨μ,Z,M,hE,hM,h⟩:=h
 exact t1 hE hM h fun x M1 v H1 μ1 x1 hE1 hM1 r1 h1=>by
  cases x with
  |exc c p=>exact ⟨μ1,c,p,v,rfl,r1,bE (v:=.bl _) hM1 (bH.ext h1 x1) rfl⟩
  |_=>exact h1.elim
theorem DJ (k:Nat)(hc:lG fa X.K)(hx:∃D,X.mg x=some (.ref D)/\fa (du k)=some D)(ha:DE fa X a ga)(hg:Gl X "isinstance")(hm:X.mg "isinstance"=none)(hgt:Gl X x)(hdb:(x==("__debug__":Str))=false)
 (he:starEach [a,.Name x p1] X.env=(false,eval a X.env)::starEach [.Name x p1] X.env):DE fa X (.Call (.Name "isinstance" p2) [a,.Name x p1] [] pos) (cS (some k) ga):=by
 obtain ⟨D,h1,h2⟩:=hx
 exact cn (jn (Et (fa:=fa) hc h2) hg hm (by decide +kernel) (cp ha (cp (lU hgt h1 (v:=.ref D) rfl hdb) eh (by rfl)) he) (by decide) (by decide) he (by rfl)) fun σ H Q h=>rO h
theorem DK (hc:lG fa X.K)(hx:∃D,X.mg x=some (.ref D)/\fa 999=some D)(ha:DE fa X a ga)(hg:Gl X "isinstance")(hm:X.mg "isinstance"=none)(hgt:Gl X x)(hdb:(x==("__debug__":Str))=false)
 (he:starEach [a,.Name x p1] X.env=(false,eval a X.env)::starEach [.Name x p1] X.env):DE fa X (.Call (.Name "isinstance" p2) [a,.Name x p1] [] pos) (cS none ga):=by
 obtain ⟨D,h1,h2⟩:=hx
 exact cn (jn (Ew (fa:=fa) hc h2) hg hm (by decide +kernel) (cp ha (cp (lU hgt h1 (v:=.ref D) rfl hdb) eh (by rfl)) he) (by decide) (by decide) he (by rfl)) fun σ H Q h=>rO h
end
theorem vS {prog:Program}{w:World}{A:Around}{E:Value->Shared->Prop}{s:Shared}{K:PySem.W.Frag}{x C D:Addr}{ox:Obj}{od:Option Obj}{Q:Bool->Shared->Prop}(X:K.In s.heap)(I:PySem.W.InstAt s.heap x ox C od)
 (hD:PySem.W.mroIn K D (.type "BaseException")=some true) (hT:PySem.W.typeIn K (.ref D)=some (.type "type")) (hs:PySem.W.mroIn K C (.ref D)=some true) (h:Q true s):wpAny (model prog w) A (excMatches (.ref x) (.ref D)) Q E s:=by
 obtain ⟨hh,g,d,t,os⟩:=s
 have LS:=PySem.W.looks_mroIn (M:=model prog w) X hs
 have LB:=PySem.W.looks_mroIn (M:=model prog w) X hD
 have LT:=PySem.W.looks_typeIn (M:=model prog w) X hT
 have f:=tc_notTuple
 obtain ⟨cd,hc,_⟩:=Option.bind_eq_some_iff.mp hD
 unfold PySem.W.clsIn at hc
 split at hc
 ·rename_i c' d' cd' sl' ho
  have hDo:=X _ _ ho
  have LI:PySem.W.Looks (model prog w) hh (isType (.ref D)) true:=fun A' Q' E' s' k q=>by
   unfold isType loadHead
   exact tqa (wpAny_loadPart (k _ _ hDo) (tqb q))
  unfold excMatches
  refine tqa (show wpAny _ _ (isInstance (.ref D) (.type "tuple")) _ _ _ from tqa (LT.at (wpAny_of_eq f ?_)))
  simp only [Bool.false_eq_true,if_false]
  repeat (first|with_reducible refine tqa (LI.at ?_)|with_reducible refine LB.at ?_|with_reducible refine LS.at ?_|with_reducible refine wpAny_loadPart_at I.at_ ?_|wp_step)
  rw [I.cls]
  refine LS.at ?_
  repeat (first|exact h|wp_step)
 ·cases hc
theorem yh {M:Model}{A:Around}{E:Value->Shared->Prop}{New:Addr->Prop}{C a:Addr}{dx:Option Addr}{H:Hp}{s:Shared}{Q:Unit->Shared->Prop}(f:n8 New C dx a s.heap H)(h:Q () s):wpAny M A (setFlight (.ref a) none) Q E s:=by
 obtain ⟨_,_,o,vs,h1,_,_,h4,tr⟩:=f
 unfold setFlight
 rcases tr with t|⟨T,oT,ts,t1,_,_,_,t5,t6,t7⟩
 ·refine tqa (tqf h1 h4 t ?_)
  rw [if_neg (by decide)]
  exact tqb h
 ·refine tqa (tqf h1 h4 t1 ?_)
  rw [if_pos (show (Value.ref T != Value.none)=true from by simp)]
  refine wpAny_setField t5 t6 (Array.getElem?_eq_some_iff.mp t7).1 ?_
  have e:=Heap.update_setField_same s.heap T oT ts 3 .none t5 t6 t7
  show Q () {s with heap:=s.heap.update T (Obj.mapFields (·.setIfInBounds 3 .none))}
  rw [e];exact h
section
variable {X:Cx}{pins:List (Addr×Obj)}{σ:L2.St}{H:Hp}{s:Shared}
theorem wF {M:Model}{A:Around}{E:Value->Shared->Prop}{i:Nat}{x:Str}{ps:Pos}{Q:Unit->Shared->Prop}(I:Inv X pins σ H s)(hN:X.N.Nodup)(hi:X.N[i]?=some x)(hk:X.env.scope.names.lookup x=some .local)
 (h:∀s',Inv X pins (σ.set i none) H s'->Q () s'):wpAny M A (do bindName X.env x .none;unbindBehindTheSuite X.env x ps) Q E s:=by
 obtain ⟨m,hn,hl⟩:=id I.loc
 have hcls:(X.env.scope.kind==.class||(X.env.scope.kind==.module&&X.env.locals != X.env.globals))=false:=by rw [I.ok.kind];rfl
 refine wpAny_nameGoes_keeps hk hn hcls fun h' v hn' hs=>h _ ?_
 obtain ⟨oL,_,_,hoL,_⟩:=id hn
 have n0:∀b o,X.s₀.heap.get? b=some o->b≠X.env.locals:=fun b o e=>tqk (tqi (tqd e) I.ok.above)
 refine ⟨I.ok,I.os,I.bare,⟨fun b o e n hb hx=>?_,fun b o e n hb hx=>?_,I.base.free,fun b o e hx=>?_,I.base.tups,I.base.frzs,I.base.tbls⟩,⟨_,hn',fun j y v' e1 e2 e3=>?_⟩,fun y c e=>?_,I.free,I.freeC,fun p hp=>?_,fun b ob e=>?_,by simpa using I.len⟩
 ·exact (hs.2 b (n0 b o e)).trans (I.base.keep b o e n hb hx)
 ·obtain ⟨sl,e1⟩:=I.base.slot b o e n hb hx
  exact ⟨sl,(hs.2 b (n0 b o e)).trans e1⟩
 ·obtain ⟨o',e1⟩:=I.base.there b o e hx
  exact ⟨o',(hs.2 b (n0 b o e)).trans e1⟩
 ·by_cases hj:j=i
  ·subst hj
   by_cases hlt:j<σ.length
   ·rw [List.getElem?_set_self hlt] at e2;cases e2
   ·rw [List.getElem?_eq_none (by simpa using hlt)] at e2;cases e2
  ·rw [List.getElem?_set_ne (Ne.symm hj)] at e2
   obtain ⟨u',r',q⟩:=hl j y v' e1 e2 e3
   refine ⟨u',r',?_⟩
   rcases q with ⟨k,e⟩|⟨k,c,e,z⟩
   ·refine .inl ⟨k,?_⟩
    have:y≠x:=fun e=>hj (pG hN e1 (e ▸ hi))
    simp [this,e]
   ·exact .inr ⟨k,c,e,z.sameBut hs (I.cne y c e)⟩
 ·obtain ⟨w',z⟩:=I.cell y c e
  exact ⟨w',z.sameBut hs (I.cne y c e)⟩
 ·obtain ⟨e,n,ne,nf,d⟩:=I.pin p hp
  exact ⟨(hs.2 p.1 ne).trans e,n,ne,nf,d⟩
 ·refine (I.hok b ob e).stay (fun c w' hc q=>(hs.2 c ?_).trans q) (fun _ q=>q) fun _ _ q=>q
  rintro rfl
  rcases hc with hc|hc
  ·rw [<- hc,I.free] at e;cases e
  ·rw [I.free] at hc;cases hc
abbrev qA (X:Cx)(pn:List (Addr×Obj))(E:Value->Shared->Prop):Cx:={X with pn:=pn,xe:=E}
abbrev tZ (X:Cx)(v:Value)(E:Value->Shared->Prop):Cx:={X with A:=X.A.mark (some v),calm:=false,xe:=E}
theorem zR (I:Inv X pins σ H s)(E:Value->Shared->Prop):Inv (qA X (X.pn++pins) E) [] σ H s:=
 ⟨⟨I.ok.mod,I.ok.kind,I.ok.glob,I.ok.blt,I.ok.above,I.ok.inj,I.ok.has,I.ok.cab,I.ok.hd,I.ok.frames,I.ok.stk,I.ok.exf,I.ok.bs,I.ok.bsz,I.ok.noex,I.ok.exfs,I.ok.funs,I.ok.frf⟩,I.os,I.bare,I.base,I.loc,I.cell,I.free,I.freeC,fun p hp=>I.pin p (by simpa using hp),I.hok,I.len⟩
theorem jM {E:Value->Shared->Prop}{pins':List (Addr×Obj)}(I:Inv (qA X (X.pn++pins) E) pins' σ H s):Inv X pins σ H s:=
 ⟨⟨I.ok.mod,I.ok.kind,I.ok.glob,I.ok.blt,I.ok.above,I.ok.inj,I.ok.has,I.ok.cab,I.ok.hd,I.ok.frames,I.ok.stk,I.ok.exf,I.ok.bs,I.ok.bsz,I.ok.noex,I.ok.exfs,I.ok.funs,I.ok.frf⟩,I.os,I.bare,I.base,I.loc,I.cell,I.free,I.freeC,fun p hp=>I.pin p (List.mem_append_left _ hp),I.hok,I.len⟩
theorem sR (I:Inv X pins σ H s)(v:Value)(E:Value->Shared->Prop):Inv (tZ X v E) pins σ H s:=
 ⟨⟨I.ok.mod,I.ok.kind,I.ok.glob,I.ok.blt,I.ok.above,I.ok.inj,I.ok.has,I.ok.cab,(fun z=>nomatch z),I.ok.frames,I.ok.stk,I.ok.exf,I.ok.bs,I.ok.bsz,I.ok.noex,I.ok.exfs,I.ok.funs,I.ok.frf⟩,I.os,I.bare,I.base,I.loc,I.cell,I.free,I.freeC,I.pin,I.hok,I.len⟩
theorem sS {v:Value}{E:Value->Shared->Prop}(hh:X.calm=true->X.A.handled=none)(I:Inv (tZ X v E) pins σ H s):Inv X pins σ H s:=
 ⟨⟨I.ok.mod,I.ok.kind,I.ok.glob,I.ok.blt,I.ok.above,I.ok.inj,I.ok.has,I.ok.cab,hh,I.ok.frames,I.ok.stk,I.ok.exf,I.ok.bs,I.ok.bsz,I.ok.noex,I.ok.exfs,I.ok.funs,I.ok.frf⟩,I.os,I.bare,I.base,I.loc,I.cell,I.free,I.freeC,I.pin,I.hok,I.len⟩
end
section
variable {fa:Fa}{X:Cx}{pos np hp:Pos}{x nm:Str}{i:Nat}{body suite:List Stmt}{b0:Stmt}{gB gH:GS}
theorem bK.unset {K:PySem.W.Frag}{μ:Mu}{H:Hp}{σ:L2.St}{Z:Env}(h:bK fa K μ H σ Z)(i:Nat):bK fa K μ H (σ.set i none) (Z.set i none):=by
 refine ⟨by simp [h.len],fun j d e=>?_⟩
 by_cases hj:j=i
 ·subst hj
  by_cases hl:j<Z.length
  ·rw [List.getElem?_set_self hl] at e;cases e
  ·rw [List.getElem?_eq_none (by simpa using hl)] at e;cases e
 ·rw [List.getElem?_set_ne (Ne.symm hj)] at e
  obtain ⟨v,h1,h2⟩:=h.at' j d e
  exact ⟨v,by rw [List.getElem?_set_ne (Ne.symm hj)];exact h1,h2⟩
theorem I8 (hc:lG fa X.K)(hx:∃D,X.mg x=some (.ref D)/\fa 999=some D)(hex:X.ex=[])(hst:X.stack=X.env::X.outer)(hfr:X.env.frame=some X.env.locals)(hN:X.N.Nodup)(hi:X.N[i]?=some nm)(hl:X.env.scope.names.lookup nm=some .local)
 (hg:Gl X x) (hdb:(x==("__debug__":Str))=false) (hb:∀pn E,g8 fa (qA X pn E) body gB) (hh:∀v E,g8 fa (tZ X v E) (b0::suite) gH) :
 DS fa X (.Try body [.ExceptHandler (some (.Name x np)) (some nm) (b0::suite) hp] [] [] pos) (uK gB i gH):=by
 intro pins s σ H D' I ⟨μ,Z,M,hE,hM,h⟩
 obtain ⟨D,hmD,hfD⟩:=hx
 obtain ⟨fl,M1,e,q⟩:=a9 h
 refine wpAny_Try_except (wpAny_mono (hb (X.pn++pins) (fun e s₁=>wpAny (model X.prog X.w) X.A (noteFrame e X.env) (fun _ s₂=>wpAny (model X.prog X.w) X.A (setFlight e none) (fun _ s₃=>wpAny (model X.prog X.w) X.A (handleBy e X.env [.ExceptHandler (some (.Name x np)) (some nm) (b0::suite) hp]) (SP X pins D') X.xe s₃) X.xe s₂) X.xe s₁) [] s σ H D' (zR I _) ⟨μ,Z,M,hE,hM,?_⟩) (fun f s1 z=>?_) fun _ _ z=>z)
 ·rw [e]
  cases fl with
  |next ρ'=>exact q
  |ret d=>exact q
  | exc y ρ1 =>
    intro pins' σ' H' μ' s' a C dx c p I1 ye hE1 hM1 ey hcC hn fl
    have I1:=I1.pins_of (pins':=[]) (fun p hp=>nomatch hp)
    have hall:∀p∈X.pn++pins,p.1≠a:=fl.1.2
    refine wx (P:=X.prog) (w:=X.w) (base:=X.base) (New:=n6 (qA X (X.pn++pins) _)) (outer:=X.outer) (by rw [<- hst];exact I1.ok.frames) (by rw [<- hst];exact I1.stack) hfr fl (fun b z=>(pJ I1 hex (Heap.get?_none_of_le z)).1) I1.hok (by rw [<- hst];exact I1.stkFree) fun h' ch hch u hok fl2=>?_
    have I2:Inv X pins σ' H' {s' with heap:=h'}:=BY (jM I1) (fun b hb=>⟨(hch b hb).1.1,(hch b hb).2.2,(hch b hb).1.2⟩) (by rw [hst];exact u) hok
    have hcD:=hc.d c C D hcC hfD
    obtain ⟨nw,ha,o,vs,h1,h2,h3,h4,tr⟩:=id fl2
    have hxat:wV C dx a h':=⟨o,vs,h1,h2,h3,h4,by
     rcases tr with t|⟨T,oT,ts,t,_⟩
     ·exact (Array.getElem?_eq_some_iff.mp t).1
     ·exact (Array.getElem?_eq_some_iff.mp t).1⟩
    have hnc:PySem.W.notCls o=true:=by unfold PySem.W.notCls;rw [h4]
    refine wpAny_handleBy_cons (codeAny_handlers_test (jq (sR I2 (.ref a) X.xe) hg hmD ?_ hdb)) (by intro z;cases z)
    have IA:∃od,PySem.W.InstAt h' a o C od:=by
     cases p with
     | none =>
       have hn:dx=none:=hn
       exact ⟨none,h1,h2,hnc,by rw [h3,hn];trivial⟩
     | some k =>
       obtain ⟨d,rfl,hd⟩:=hn
       obtain ⟨mA,⟨od,es,ep,ed,_⟩,_⟩:=hok d _ hd
       exact ⟨some od,h1,h2,hnc,by rw [h3];exact ed⟩
    obtain ⟨od,IA⟩:=IA
    refine vS I2.kIn IA hcD.2.2.1 hcD.2.2.2 hcD.2.1 ?_
    refine codeAny_handlers_suite_as (yh fl2 ?_)
    have I3:Inv X pins σ' (upd H' a (.ext (wV C dx a))) {s' with heap:=h'}:=sQ I2 hex ha nw.1 ⟨o,vs,h1,h4⟩ hall ⟨hxat,⟨o,h1⟩,fun g1 g2 ⟨o,vs,k1,k2⟩ kk=>⟨o,vs,kk o k1,k2⟩⟩
    have xa:Ext μ' H' μ' (upd H' a (.ext (wV C dx a))):=Ext.alloc hM1 ha
    have rp:Rep fa X.K μ' (upd H' a (.ext (wV C dx a))) y (.ref a):=by
     rw [ey]
     refine ⟨a,C,dx,rfl,hcC,cb,?_⟩
     cases p with
     |none=>exact hn
     |some k=>exact let ⟨d,z1,z2⟩:=hn;⟨d,z1,by rw [aP (br z2 ha)];exact z2⟩
    refine uw I3 hN hi (.inl hl) (v:=.ref a) rfl (fun s4 I4=>?_) (.inr hl)
    have q:aj ((gH (ρ1.set i (some y)) M1).bind (AH i)) (oY fa X μ H D'):=q
    obtain ⟨fl3,M2,e3,q3⟩:=a9 q
    refine wpAny_mono (hh (.ref a) _ pins s4 (σ'.set i (some (.ref a))) (upd H' a (.ext (wV C dx a))) {nx:=fun σ2 H2=>D'.nx (σ2.set i none) H2,rt:=D'.rt} (sR I4 (.ref a) _) ⟨μ',_,M1,(hE1.ext xa).set rp,hM1.alloc ha,?_⟩) (fun f s5 z=>?_) fun _ _ z=>z
    ·rw [e3]
     cases fl3 with
     |next ρ2=>exact fun σ2 H2 μ2 x2 hE2 hM2=>q3 (σ2.set i none) H2 μ2 ((ye.trans xa).trans x2) (hE2.unset i) hM2
     |ret d=>exact bH.ext q3 (ye.trans xa)
     |exc=>exact q3.elim
    ·dsimp only
     cases f with
     | next =>
       obtain ⟨σ5,H5,I5,z⟩:=z
       exact wF (sS I2.ok.hd I5) hN hi hl fun s6 I6=>⟨_,H5,I6,z⟩
     | ret u =>
       obtain ⟨v,σ5,H5,I5,r5,z⟩:=z
       exact wF (sS I2.ok.hd I5) hN hi hl fun s6 I6=>⟨v,_,H5,I6,r5,z⟩
     |brk=>obtain ⟨_,_,_,z⟩:=z;exact z.elim
     |cont=>obtain ⟨_,_,_,z⟩:=z;exact z.elim
 ·cases f with
  |next=>obtain ⟨σ5,H5,I5,z⟩:=z;exact wpAny_execs_nil ⟨σ5,H5,jM I5,z⟩
  |ret u=>obtain ⟨v,σ5,H5,I5,r5,z⟩:=z;exact ⟨v,σ5,H5,jM I5,r5,z⟩
  |brk=>obtain ⟨σ5,H5,I5,z⟩:=z;exact ⟨σ5,H5,jM I5,z⟩
  |cont=>obtain ⟨σ5,H5,I5,z⟩:=z;exact ⟨σ5,H5,jM I5,z⟩
end
def Fc (K:PySem.W.Frag)(cl:List (Nat×Addr))(D:Addr):Bool:=PySem.W.mroIn K D (.type "BaseException")==some true&&PySem.W.typeIn K (.ref D)==some (.type "type") &&
 cl.all fun q=>mj K q.2&&PySem.W.mroIn K q.2 (.type "ValueError")==some true&&PySem.W.isIn K (.ref q.2) q.2&&PySem.W.isIn K (.ref q.2) D&&PySem.W.mroIn K q.2 (.ref D)==some true&&cl.all fun r=>r.1==q.1||PySem.W.kin_not K q.2 r.2
def Ab (l cl:List (Nat×Addr))(D:Addr):Fa:=fun i=>if i<999 then l.lookup i else if i=999 then some D else cl.lookup (i-1000)
theorem lookup_mem:∀{l:List (Nat×Addr)}{c:Nat}{C:Addr},l.lookup c=some C->(c,C)∈l
 |[],_,_,h=>by cases h
 | (a, b) :: r, c, C, h => by
   rw [List.lookup_cons] at h
   split at h
   ·next e=>cases h;rw [eq_of_beq e];exact List.mem_cons_self
   ·exact List.mem_cons_of_mem _ (lookup_mem h)
theorem lZ {l cl:List (Nat×Addr)}{D:Addr}{c:Nat}{C:Addr}(h:Ab l cl D (du c)=some C):(c,C)∈cl:=by
 unfold Ab du at h
 rw [if_neg (by omega),if_neg (by omega),Nat.add_sub_cancel_left] at h
 exact lookup_mem h
theorem Fb {K:PySem.W.Frag}{l cl:List (Nat×Addr)}{D:Addr}(h:Fc K cl D=true):lG (Ab l cl D) K:=by
 unfold Fc at h
 simp only [Bool.and_eq_true,beq_iff_eq,List.all_eq_true,Bool.or_eq_true] at h
 obtain ⟨⟨h1,h2⟩,h3⟩:=h
 refine ⟨fun c C e=>?_,fun c C D' e e'=>?_,fun c C c' C' e e' n=>?_⟩
 ·obtain ⟨⟨⟨⟨⟨a1,a2⟩,a3⟩,a4⟩,a5⟩,a6⟩:=h3 _ (lZ e)
  exact ⟨a1,a2,a3⟩
 ·obtain ⟨⟨⟨⟨⟨a1,a2⟩,a3⟩,a4⟩,a5⟩,a6⟩:=h3 _ (lZ e)
  have e':some D=some D':=e'
  cases e'
  exact ⟨a4,a5,h1,h2⟩
 ·obtain ⟨⟨⟨⟨⟨a1,a2⟩,a3⟩,a4⟩,a5⟩,a6⟩:=h3 _ (lZ e)
  exact (a6 _ (lZ e')).elim (fun z=>absurd z n) id
end LD
namespace LD
open PySem PySem.Spec PyProof.Rows L2 PySem.SeqAt
def pW (M:Mem)(x:D):Option (List Bool):=(gi M x).bind boolsOf
def yg (a:GE):GE:=fun Z M=>(a Z M).bind fun x M=>match pW M x with
 |some bs=>.ok (.int (bs.count true)) M
 |none=>.bad
def yf (a:GE):GE:=fun Z M=>(a Z M).bind fun x M=>match pW M x with
 |some bs=>if true∈bs then .ok (.int (bs.idxOf true)) M else .bad
 |none=>.bad
def qx:Value->Bool
 |.bool b=>b
 |_=>false
section
variable {fa:Fa}{X:Cx}
theorem eqT {A:Around}{s:Shared}{us:List Value}{bs:List Bool}(h:us=bs.map Value.bool):∀y,y∈us.toArray->EqAt A s y (.bool true) (qx y):=fun y hy=>by
 have hy:y∈us:=by simpa using hy
 rw [h] at hy
 obtain ⟨b,_,rfl⟩:=List.mem_map.mp hy
 have e:=EqAt.bool_bool (A:=A) (s:=s) b true
 have q:(b==true)=qx (.bool b):=by cases b<;>rfl
 rw [<- q];exact e
theorem L8 {bs:List Bool}:(bs.map Value.bool).countP qx=bs.count true:=by
 induction bs with
 |nil=>rfl
 |cons b r ih=>cases b<;>simp [List.countP_cons,qx,ih]
theorem sX:∀{us:List Value}{bs:List Bool},PyProof.Rows.LSm.BoolsAre us bs->us=bs.map Value.bool:=by
 intro us bs h
 induction h with
 |nil=>rfl
 |cons _ _ ih=>simp [ih]
def K9 (fa:Fa)(K:PySem.W.Frag)(x:V)(vs:List V)(H:Hp)(Q:VK):Prop:=∃μ ds bs p ws,x=.ref p/\vs=[.bl true]/\dg K H p ws/\aX fa K μ H ds ws/\boolsOf ds=some bs/\Q (.int (bs.count true)) H
def Jf (fa:Fa)(K:PySem.W.Frag)(x:V)(vs:List V)(H:Hp)(Q:VK):Prop:=∃μ ds bs p ws,x=.ref p/\vs=[.bl true]/\dg K H p ws/\aX fa K μ H ds ws/\boolsOf ds=some bs/\true∈bs/\Q (.int (bs.idxOf true)) H
theorem Hu:IC X "list.count" (K9 fa X.K):=by
 intro pins s σ H x vs v us Q I rx rv h
 obtain ⟨μ,ds,bs,p,ws,rfl,rfl,hq,rl,eb,q⟩:=h
 cases rx
 obtain ⟨u,rfl,ru⟩:=vals1 rv
 obtain rfl:u=Value.bool true:=ru
 obtain ⟨its,rv,⟨o,n,e1,e2,e3,e4⟩,hz⟩:=I.list hq
 have hb:=sX (ny eb rl rv)
 obtain ⟨oc,od,oda,osl⟩:=o
 obtain rfl:oc=.type "list":=e2
 obtain rfl:oda=.seq its.toArray n:=e4
 refine call_meets PySem.F.slot_list_count ⟨_,e1,rfl⟩ PySem.F.entry_list_count (PySem.F.args_list_count_2 _ _) (PySem.SeqAt.list_countAt p its.toArray n od osl (.bool true) qx) ⟨e1,eqT hb,?_⟩
 have hcnt:its.toArray.toList.countP qx=bs.count true:=by rw [hb,List.toList_toArray];exact L8
 exact ⟨.int (bs.count true),H,I.tok _,⟨s.toks,by rw [hcnt]⟩,q⟩
theorem Ht:IC X "list.index" (Jf fa X.K):=by
 intro pins s σ H x vs v us Q I rx rv h
 obtain ⟨μ,ds,bs,p,ws,rfl,rfl,hq,rl,eb,hm,q⟩:=h
 cases rx
 obtain ⟨u,rfl,ru⟩:=vals1 rv
 obtain rfl:u=Value.bool true:=ru
 obtain ⟨its,rv,⟨o,n,e1,e2,e3,e4⟩,hz⟩:=I.list hq
 have hb:=sX (ny eb rl rv)
 obtain ⟨oc,od,oda,osl⟩:=o
 obtain rfl:oc=.type "list":=e2
 obtain rfl:oda=.seq its.toArray n:=e4
 have hl:bs.idxOf true<bs.length:=List.idxOf_lt_length_of_mem hm
 have hl2:its.length=bs.length:=by rw [hb];simp
 have hz2:its.length<=sizeLine:=by rw [<- rv.length];exact hz
 have hs:((bs.idxOf true:Nat):Int)<2^63-1:=by
  have:sizeLine<2^62:=by decide
  omega
 have at':∀m (hm:m<its.toArray.size),qx its.toArray[m]=bs[m]'(by simp at hm;omega):=fun m hm=>by subst hb;simp [qx]
 refine call_meets PySem.F.slot_list_index ⟨_,e1,rfl⟩ PySem.F.entry_list_index (PySem.F.args_list_index_2 _ _) (PySem.SeqAt.list_indexAt p its.toArray n od osl (.bool true) qx (bs.idxOf true) (by simp;omega) hs (by rw [at'];simp) fun m hm h=>?_) ⟨e1,eqT hb,?_⟩
 ·rw [at']
  have:=List.not_of_lt_findIdx (p:=(·==true)) (xs:=bs) (i:=m) h
  simpa using this
 ·exact ⟨.int (bs.idxOf true),H,I.tok _,⟨_,rfl⟩,q⟩
variable {a:Expr}{ga:GE}{apos cpos kp:Pos}{j:Nat}
theorem FI (ha:DE fa X a ga)(hbase:attributeBase a "count" X.env (eval a X.env)=eval a X.env)(hline:(apos.endLine==cpos.line)=true):DE fa X (.Call (.Attribute a "count" apos) [.Constant (.bool true) j kp] [] cpos) (yg ga):=
 cn (xi PySem.F.plainAttrs_list PySem.F.slot_list_count PySem.F.type_list_count (Hu (fa:=fa)) ha (cp xj eh (by rfl)) hbase (by rfl) hline (by rfl) (by rfl)) fun σ H Q ⟨μ,Z,M,hE,hM,h⟩=>t1 hE hM h fun x M1 v H1 μ1 x1 hE1 hM1 r1 h1=>by
  cases e3:pW M1 x with
  |none=>rw [e3] at h1;exact h1.elim
  |some bs=>
   rw [e3] at h1
   obtain ⟨ds,e,e2⟩:=Option.bind_eq_some_iff.mp e3
   obtain ⟨p,ws,rfl,hq,rl⟩:=cf hM1 r1 e
   exact ⟨.inl ⟨rfl,ws,hq⟩,μ1,ds,bs,p,ws,rfl,rfl,hq,rl,e2,bE (v:=.int _) hM1 (bH.ext h1 x1) rfl⟩
theorem FE (ha:DE fa X a ga)(hbase:attributeBase a "index" X.env (eval a X.env)=eval a X.env)(hline:(apos.endLine==cpos.line)=true):DE fa X (.Call (.Attribute a "index" apos) [.Constant (.bool true) j kp] [] cpos) (yf ga):=
 cn (xi PySem.F.plainAttrs_list PySem.F.slot_list_index PySem.F.type_list_index (Ht (fa:=fa)) ha (cp xj eh (by rfl)) hbase (by rfl) hline (by rfl) (by rfl)) fun σ H Q ⟨μ,Z,M,hE,hM,h⟩=>t1 hE hM h fun x M1 v H1 μ1 x1 hE1 hM1 r1 h1=>by
  cases e3:pW M1 x with
  |none=>rw [e3] at h1;exact h1.elim
  |some bs=>
   rw [e3] at h1
   obtain ⟨ds,e,e2⟩:=Option.bind_eq_some_iff.mp e3
   have h1:aj (if true∈bs then .ok (.int (bs.idxOf true)) M1 else .bad) (bH fa X.K μ H Q):=h1
   split at h1
   ·next hm=>
    obtain ⟨p,ws,rfl,hq,rl⟩:=cf hM1 r1 e
    exact ⟨.inl ⟨rfl,ws,hq⟩,μ1,ds,bs,p,ws,rfl,rfl,hq,rl,e2,hm,bE (v:=.int _) hM1 (bH.ext h1 x1) rfl⟩
   ·exact h1.elim
end
end LD
namespace LD
open PySem PySem.Spec PySem.Calls PyProof.Rows
section
variable {prog:Program}{w:World}{A:Around}{E:Value->Shared->Prop}{h:Heap}{g:Array GenState}{d:Drawn}{t:Nat}{os:OsState}
variable {nm q:Str}{C N:Addr}{bs bm:List Value}{hdct:Bool}{sn:List Str}{sub:List Value}{ab:Bool}{col:Option Bool}{dd:Option Addr}{k0 k1 k2 k3 k5:Option Value}
theorem B6 {e:Addr}{oe:Obj}{vs:Array Value}{u:Value}{Q:Value->Shared->Prop}(hC:h.get? C=some (excClassObj nm q C N bs bm hdct sn sub ab col dd k0 k1 k2 k3 k5 "ValueError.__new__"))(T:OwnTail h mT bm)
 (he:h.get? e=some oe) (hcls:oe.cls=.ref C) (hd:oe.data=.fields vs) {t0:Addr} (h0:vs[0]?=some (.ref t0))
 (hq:∀h' tp,(∀b o,b≠e->h.get? b=some o->h'.get? b=some o)->h'.get? e=some (oe.mapFields (·.setIfInBounds 0 (.ref tp)))->Q .none ⟨h',g,d,t,os⟩) :
 wpAny (model prog w) A (call (.builtin "ValueError.__init__") [.ref e,u]) Q E ⟨h,g,d,t,os⟩:=by
 refine wpAny_call (codeAny_call_builtin PySem.F.excBase_ValueError.init.plain PySem.F.excBase_ValueError.initEntry (wpAny_check_init_subT PySem.F.excBase_ValueError T hC he hcls ?_))
 wp_walk
 have he2:(h.push {cls:=.type "tuple",data:=.seq #[u]}).get? e=some oe:=tqc _ he
 rw [hd]
 refine tqb ?_
 rw [h0]
 refine tqb ?_
 refine tqa (wpAny_setField he2 hd (Array.getElem?_eq_some_iff.mp h0).1 ?_)
 wp_walk
 refine hq _ h.objs.size (fun b o hb e'=>?_) ?_
 ·rw [tql _ _ (Ne.symm hb)];exact tqc _ e'
 ·exact tqm _ he2 (Obj.isFreed_of_fields (Obj.data_mapFields hd _))
end
def mD:List Value->Bool
 |.ref _::r=>mD r
 |l=>l==mT
theorem uO (self:Value):∀{l:List Value},mD l=true->refuseLoop self "__setattr__" l=pure ()
 |[],e=>absurd e (by decide)
 | a :: r, e => by
   cases a with
   |ref c=>rw [refuseLoop_ref];exact uO self e
   | _ =>
     have q:=eq_of_beq (show (_::r==mT)=true from e)
     rw [q];exact PySem.F.store_ValueError.passes self
def tU (K:PySem.W.Frag)(C:Addr):Bool:=(PySem.W.clsIn K C).any (fun cd=>mD cd.mro)&&PySem.W.mroIn K C (.type "object")==some true
theorem Jm {prog:Program}{w:World}{A:Around}{R:Result->Shared->Prop}{s:Shared}{K:PySem.W.Frag}{x C:Addr}{ox:Obj}{od:Option Obj}{name:Str}{tk:Tok}{v:Value}(X:K.In s.heap)(J:PySem.W.InstAt s.heap x ox C od)(hp:tU K C=true)(ht:PySem.W.takerIn K C name=some none)
 (h:∀b,wpAny (model prog w) A.in1 (Builtin.ObjectAttr.storeInOwnDict (.ref x) (.ref C) (.str name tk) name v b) (fun fin s'=>match fin with|.done f=>R (.ok f) s'|.again c'=>c'.quiet=true/\codeAny (model prog w) A c' R s') (fun e s'=>R (.error e) s') s) :
 codeAny (model prog w) A (.call (.builtin "object.__setattr__") ⟨[.ref x,.str name tk,v],[]⟩) R s:=by
 unfold tU at hp
 rw [Bool.and_eq_true,beq_iff_eq] at hp
 obtain ⟨cd,hc,ho⟩:=PySem.W.any_some hp.1
 have G:=PySem.F.store_ValueError
 have ho:mD cd.mro=true:=ho
 have e0:PySem.W.Looks (model prog w) s.heap (isInstance (.ref x) (.type "object")) true:=J.type.andThen (PySem.W.looks_mroIn X hp.2)
 obtain ⟨at',ha,hr⟩:=Option.bind_eq_some_iff.mp ht
 have e1:PySem.W.Looks (model prog w) s.heap (mroOf (.ref C)) cd.mro:=(PySem.W.looks_clsIn X hc).andThen .now
 have e2:PySem.W.Looks (model prog w) s.heap (Builtin.ObjectAttr.storeTaker? at') none:=by
  cases at' with
  |none=>exact .now
  | some a =>
    obtain ⟨b,hb,hn⟩:=Option.map_eq_some_iff.mp hr
    cases b with
    |true=>cases hn
    |false=>exact (PySem.W.looks_takesIn X hb).andThen .now
 refine codeAny_call_builtin PySem.F.store_object.slot.plain G.entry (@PySem.W.check_slot (model prog w) _ _ s "object.__setattr__" "object" "__setattr__" (.ref x) [.str name tk,v] [] _ G.kind G.split e0 (G.args (.ref x) (.str name tk) v) ?_)
 rw [PySem.W.osa_eq]
 refine tqa ?_
 rw [refuse_eq]
 refine tqa (J.type.here (tqa (e1.here ?_)))
 rw [uO _ ho]
 exact tqb (tqa (J.type.here (tqa ((PySem.W.looks_findIn X ha).here (tqa (e2.here (h _)))))))
theorem Ey {prog:Program}{w:World}{A:Around}{E:Value->Shared->Prop}{s:Shared}{K:PySem.W.Frag}{x C:Addr}{ox:Obj}{name:Str}{v:Value}{vs:Array Value}{Q:Unit->Shared->Prop}(X:K.In s.heap)(J:PySem.W.InstAt s.heap x ox C none)
 (hs:PySem.W.findIn K (.ref C) "__setattr__"=some (some (.builtin "object.__setattr__"))) (hp:tU K C=true) (ht:PySem.W.takerIn K C name=some none) (hh:PySem.W.hasDictIn K C=true) (hd:ox.data=.fields vs)
 (h:∀h' d,s.heap.objs.size<=d->h'.Ns1 d (fun y=>if y=name then some v else none)->h'.get? x=some {ox with dict:=some d}->(∀b o,b≠x->s.heap.get? b=some o->h'.get? b=some o)->Q () {s with heap:=h',toks:=s.toks+2}) :
 wpAny (model prog w) A (setAttr (.ref x) name v) Q E s:=by
 refine PySem.W.set_plain X J hs (Jm (s:={s with toks:=s.toks+1}) X J hp ht fun b=>?_)
 obtain ⟨cd,hc,hd'⟩:=PySem.W.any_some hh
 have hx:=J.at_
 obtain ⟨oc,odi,oda,osl⟩:=ox
 obtain rfl:oc=.ref C:=J.cls
 obtain rfl:oda=.fields vs:=hd
 have hdi:odi=none:=by
  have:=J.dict
  cases odi with
  |none=>rfl
  |some d=>exact this.elim
 subst hdi
 refine tqa (tqb (tqa (tqa (wpAny_loadPart hx (tqa (PySem.W.Looks.here (s:={s with toks:=s.toks+1}) (PySem.W.looks_clsIn X hc) ?_))))))
 rw [hd']
 show wpAny _ _ (alloc {cls:=.type "dict",data:=.dict #[]} >>= fun d=>update x (fun o=>{o with dict:=some d}) >>= fun _=>(pure (some d):Sem (Option Addr))) _ _ _
 refine tqa (wpAny_alloc ?_)
 have hx2:(s.heap.push {cls:=.type "dict",data:=.dict #[]}).get? x=some ⟨.ref C,none,.fields vs,osl⟩:=tqc _ hx
 refine tqa (wpAny_update hx2 (tqb ?_))
 have hdx:s.heap.objs.size≠x:=Nat.ne_of_gt (tqd hx)
 have e1:(s.heap.push {cls:=.type "dict",data:=.dict #[]}).get? s.heap.objs.size=some {cls:=.type "dict",data:=.dict #[]}:=tqe s.heap rfl
 have e2:((s.heap.push {cls:=.type "dict",data:=.dict #[]}).update x (fun o=>{o with dict:=some s.heap.objs.size})).get? s.heap.objs.size=some {cls:=.type "dict",data:=.dict #[]}:=(tql _ _ (Ne.symm hdx)).trans e1
 have e3:((s.heap.push {cls:=.type "dict",data:=.dict #[]}).update x (fun o=>{o with dict:=some s.heap.objs.size})).Ns s.heap.objs.size (fun _=>none):=⟨_,#[],_,e2,rfl,(fun e he=>absurd he (by simp)),fun _=>rfl⟩
 have e4:=tqm (fun o=>{o with dict:=some s.heap.objs.size}) hx2 rfl
 refine tqa (tqb (tqa ?_))
 refine wpAny_nsSet1 (Heap.Ns1.of_empty e3) fun h' hn2 hs2=>?_
 obtain ⟨oD,esD,epD,hoD,hdD,hcD⟩:=hn2.count (PySem.Within.cons name v PySem.Within.nil)
 refine tqa (wpAny_lookBehind hoD (by rw [hdD];exact pastItsLine_dict (tqh hcD (by show 1<=sizeLine+1;omega))) ?_)
 refine tqb (h _ s.heap.objs.size (tqg _) hn2 ((hs2.2 _ (Ne.symm hdx)).trans e4) fun b o hb e=>?_)
 rw [hs2.2 b (tqk (tqd e)),tql _ _ (Ne.symm hb)]
 exact tqc _ e
end LD
namespace LD
open PySem PySem.Spec PyProof.Rows L2
def fit (z:Str)(i:Int)(y:Str):Prop:=i.natAbs.log2<1920/\(z++(toString i:Str)).length<=sizeLine/\(z++(toString i:Str)++y).length<=sizeLine
section
variable {X:Cx}{a:Expr}{ta:TE}{pos p1 p2 p3:Pos}{j j2:Nat}{z y:Str}
def Kd (z y:Str)(ta:TE):TE:=fun σ H Q=>z.length<=sizeLine/\ta σ H fun v H1=>∃i,v=.int i/\fit z i y/\Q (.str (z++(toString i:Str)++y)) H1
theorem tq (z:Str):Str.empty++z=z:=by
 cases z with
 |mk c=>show Str.mk (#[]++c)=_;simp
theorem yq (z:Str):z++Str.empty=z:=by
 cases z with
 |mk c=>show Str.mk (c++#[])=_;simp
theorem Jk (ha:PE X a ta):PE X (.JoinedStr [.Constant (.str z) j p1,.FormattedValue a (-1) none p2,.Constant (.str y) j2 p3] pos) (Kd z y ta):=by
 intro pins s σ H Q I ⟨hz,h⟩
 refine JoinedStr_many (joinParts_cons (Calls.Constant_str ?_))
 show (Str.empty++z).length<=sizeLine/\_
 rw [tq]
 refine ⟨hz,joinParts_cons (FormattedValue_plain (bp (ha pins _ σ H _ (I.tok _) h) fun u s1 ⟨v,H1,I1,r1,i,ev,⟨f1,f2,f3⟩,q⟩=>?_))⟩
 subst ev
 obtain ⟨t,rfl⟩:=r1
 refine formatField_int_small f1 ⟨f2,joinParts_cons (Calls.Constant_str ⟨f3,joinParts_nil ?_ f3⟩)⟩
 exact ⟨.str _,H1,I1.tok _,⟨_,rfl⟩,q⟩
theorem Jl (ha:PE X a ta):PE X (.JoinedStr [.Constant (.str z) j p1,.FormattedValue a (-1) none p2] pos) (Kd z Str.empty ta):=by
 intro pins s σ H Q I ⟨hz,h⟩
 refine JoinedStr_many (joinParts_cons (Calls.Constant_str ?_))
 show (Str.empty++z).length<=sizeLine/\_
 rw [tq]
 refine ⟨hz,joinParts_cons (FormattedValue_plain (bp (ha pins _ σ H _ (I.tok _) h) fun u s1 ⟨v,H1,I1,r1,i,ev,⟨f1,f2,f3⟩,q⟩=>?_))⟩
 subst ev
 obtain ⟨t,rfl⟩:=r1
 refine formatField_int_small f1 ⟨f2,joinParts_nil ?_ f2⟩
 have e:z++(toString i:Str)++Str.empty=z++(toString i:Str):=by
  exact yq _
 rw [e] at q
 exact ⟨.str _,H1,I1.tok _,⟨_,rfl⟩,q⟩
end
def fz (C:Addr)(dx:Option Addr)(a:Addr)(h:Heap):Prop:=∃o vs t0,h.get? a=some o/\o.cls=.ref C/\o.dict=dx/\o.data=.fields vs/\vs[0]?=some (.ref t0)/\vs[1]?=some .none
def la (K:PySem.W.Frag)(C:Addr)(fI:Addr):Bool:=match K.lookup C with
 | some ⟨.type "type", _, .cls cd, sl⟩ => (match cd.mro, sl.toList with
   |.ref C'::bm,[_,_,_,_,some (.builtin n),_]=>C'==C&&n=="ValueError.__new__"&&!cd.hasDel&&PySem.W.tailIn K mT bm&&PySem.W.nsOkIn K cd.ns&&PySem.W.nsIn K cd.ns "__init__"==some (some (.ref fI))
   |_,_=>false)
 |_=>false
theorem xu {K:PySem.W.Frag}{h:Heap}{N:Addr}{x:Str}{v:Value}{mg:Str->Option Value}(X:K.In h)(G:h.Ns N mg)(e:PySem.W.nsIn K N x=some (some v)):mg x=some v:=by
 obtain ⟨o,es,ep,ho,hd,_,hf⟩:=G
 unfold PySem.W.nsIn at e
 split at e
 ·rename_i c d es' n' sl q
  have:=X _ _ q
  rw [ho] at this
  cases this
  cases hd
  split at e
  ·rename_i en he
   cases e
   rw [<- hf]
   unfold nsFind findBy
   rw [<- Array.find?_toList,he]
   rfl
  ·split at e<;>cases e
 ·cases e
theorem nQ {K:PySem.W.Frag}{h:Heap}{C fI:Addr}(X:K.In h)(q:la K C fI=true) :
 ∃bm N nm q bs hdct sn sub ab col dd k0 k1 k2 k3 k5 mN,h.get? C=some (excClassObj nm q C N bs bm hdct sn sub ab col dd k0 k1 k2 k3 k5 "ValueError.__new__")/\h.Ns N mN/\mN "__init__"=some (.ref fI)/\OwnTail h mT bm:=by
 unfold la at q
 split at q
 ·rename_i dd cd sl ho
  split at q
  ·rename_i C' bm k0 k1 k2 k3 n k5 hm hs
   simp only [Bool.and_eq_true,beq_iff_eq,Bool.not_eq_true'] at q
   obtain ⟨⟨⟨⟨⟨rfl,rfl⟩,hdel⟩,ht⟩,hok⟩,hni⟩:=q
   obtain ⟨nm,bs,mro,ns,qn,hd,sn,sub,ab,col,del⟩:=cd
   dsimp only at hm hdel hok hni
   subst hm hdel
   have hsl:sl=#[k0,k1,k2,k3,some (.builtin "ValueError.__new__"),k5]:=by
    obtain ⟨l⟩:=sl
    simp only at hs
    rw [hs]
   subst hsl
   exact ⟨bm,ns,nm,qn,bs,hd,sn,sub,ab,col,dd,k0,k1,k2,k3,k5,_,X _ _ ho,.of_isNs (PySem.W.isNs_of_in X hok),xu X (.of_isNs (PySem.W.isNs_of_in X hok)) hni,PySem.W.tail_of_in X ht⟩
  ·cases q
 ·cases q
theorem AM {H:Hp}{a:Addr}{o:HO}(h:H a=some o):upd H a o=H:=by
 funext b
 unfold upd
 split
 ·next e=>rw [e,h]
 ·rfl
section
variable {X:Cx}{a b:Expr}{ta tb:TE}{apos cpos p1 pos:Pos}{x:Str}{D:Addr}
def KR (K:PySem.W.Frag)(ta tb:TE):TE:=fun σ H Q=>ta σ H fun v H1=>tb σ H1 fun u H2=>∃e C fI,v=.ref e/\H2 e=some (.ext (fz C none e))/\la K C fI=true/\Q .non H2
theorem qP {P:Program}{w:World}{H:Hp}{h:Heap}{C e:Addr}{dx:Option Addr}(x:fz C dx e h):di P w H h e (.ext (fz C dx e)):=by
 refine ⟨x,let ⟨o,_,_,e,_⟩:=x;⟨o,e⟩,fun g1 g2 ⟨o,vs,t0,k1,k2⟩ kk=>⟨o,vs,t0,kk o k1,k2⟩⟩
theorem Gk {pl:Sem Bool}(hD:X.mg x=some (.ref D))(hg:Gl X x)(h1:PySem.W.readsIn X.K D (.type "type")=true)(h2:PySem.W.findCls X.K (.ref D) (.type "type") "__init__"=some (.val (.builtin "ValueError.__init__")))
 (h3:PySem.W.specialIn X.K (.ref D) "__getattribute__"=some (some (.builtin "type.__getattribute__"))) (ha:PE X a ta) (hb:PE X b tb) (he:notStar a=true) (he2:notStar b=true) (hdb:(x==("__debug__":Str))=false)
 (ht:eval (.Call (.Attribute (.Name x p1) "__init__" apos) [a,b] [] cpos) X.env=(do
  let ov <- eval (.Name x p1) X.env
  standAt apos.atName
  let (f,first) <- holding [ov] (getMethod ov "__init__" pl)
  callWith cpos f first (backTo cpos (starEach [a,b] X.env)) (backToKw cpos (keywordEach [] X.env)))) :
 PE X (.Call (.Attribute (.Name x p1) "__init__" apos) [a,b] [] cpos) (KR X.K ta tb):=by
 intro pins s σ H Q I h
 refine PySem.W.methodCall_KW (pl:=pl) (jq I hg hD ?_ hdb) ht
 refine PySem.W.method_cls I.kIn h3 (PySem.W.cls_value I.kIn h1 h2 rfl ?_)
 refine Calls.callWith_builtin (dX (es:=[a,b]) (by simp [he,he2])) ?_
 have ar:=bp ((cp ha (cp hb eh (cI he2)) (cI he)) cpos pins {s with toks:=s.toks+1} σ H (fun vs H2=>match vs with|[v,u]=>∃e C fI,v=.ref e/\H2 e=some (.ext (fz C none e))/\la X.K C fI=true/\Q .non H2|_=>False) (I.tok _) h) (Q':=fun us s2=>wpAny (model X.prog X.w) X.A (call (.builtin "ValueError.__init__") ([]++us) []) (EP X pins σ Q) X.xe s2) fun us s1 ⟨vs,H1,I1,r,hq⟩=>by
  match vs,r,hq with
  |[],_,hq=>exact hq.elim
  |[_],_,hq=>exact hq.elim
  |_::_::_::_,_,hq=>exact hq.elim
  | [v, u], r, ⟨e, C, fI, ev, hH, hx, q⟩ =>
    subst ev
    obtain ⟨w1,w2,rfl,r1,r2⟩:=vals2 r
    obtain rfl:w1=Value.ref e:=r1
    obtain ⟨⟨o,vs,t0,k1,k2,k3,k4,k5,k6⟩,_,_⟩:=I1.hok e _ hH
    obtain ⟨bm,N,nm,qq,bs,hdct,sn,sub,ab,col,dd,c0,c1,c2,c3,c5,mN,hC,hN,hni,T⟩:=nQ I1.kIn hx
    obtain ⟨hp,gg,dr,tk,os⟩:=s1
    refine B6 hC T k1 k2 k4 k5 fun h' tp kk ke=>?_
    have nw:fz C none e h':=⟨_,_,tp,ke,by rw [Obj.cls_mapFields];exact k2,by rw [nR];exact k3,Obj.data_mapFields k4 _,by simp [(Array.getElem?_eq_some_iff.mp k5).1],by rw [Array.getElem?_setIfInBounds_ne (by decide)];exact k6⟩
    have I2:=I1.write (x:=e) (e:=e) (o:=.ext (fz C none e)) (h':=h') (t':=tk) (by rw [hH];exact True.intro) (.inl rfl) (fun b u hb z=>kk b u hb z) ⟨_,ke⟩ (qP nw)
    rw [AM hH] at I2
    exact ⟨.non,H1,I2,rfl,q⟩
 rw [cI he] at ar ⊢
 exact PySem.Calls.evalArgs_plain ar
end
def setIn (K:PySem.W.Frag)(C:Addr)(fld:Str):Bool:=PySem.W.findIn K (.ref C) "__setattr__"==some (some (.builtin "object.__setattr__"))&&tU K C&&PySem.W.takerIn K C fld==some none&&PySem.W.hasDictIn K C
section
variable {X:Cx}{o value:Expr}{to tv:TE}{p' pos:Pos}{fld:Str}
def IT (K:PySem.W.Frag)(tv to:TE)(fld:Str):TS:=fun D σ H=>tv σ H fun y H1=>to σ H1 fun x H2=>∃e C i,x=.ref e/\y=.int i/\H2 e=some (.ext (fz C none e))/\setIn K C fld=true/\∀d,H2 d=none->d≠e->D.nx σ (upd (upd H2 d (.xd [(fld,.int i)])) e (.ext (fz C (some d) e)))
theorem DR (ho:PE X o to)(hv:PE X value tv)(hs:swapsWith value (some (.Attribute o fld p')) pos.line X.env=pure false):PS X (.Assign [.Attribute o fld p'] value pos) (IT X.K tv to fld):=by
 intro pins s σ H D I h
 refine plainObj_wpAny_Assign_Attribute (bp (hv pins s σ H _ I h) fun u s1 ⟨y,H1,I1,ry,q⟩=>bp (ho pins s1 σ H1 _ I1 q) fun ov s2 ⟨x,H2,I2,rx,e,C,i,ex,ey,hH,hset,q2⟩=>?_) hs
 subst ex ey
 obtain rfl:ov=Value.ref e:=rx
 obtain ⟨t,rfl⟩:=ry
 simp only [setIn,Bool.and_eq_true,beq_iff_eq] at hset
 obtain ⟨⟨⟨g1,g2⟩,g3⟩,g4⟩:=hset
 obtain ⟨⟨ob,vs,t0,k1,k2,k3,k4,k5,k6⟩,_,_⟩:=I2.hok e _ hH
 have IA:PySem.W.InstAt s2.heap e ob C none:=⟨k1,k2,by unfold PySem.W.notCls;rw [k4],by rw [k3];trivial⟩
 refine Ey I2.kIn IA g1 g2 g3 g4 k4 fun h' d hd hns hx' kk=>?_
 have hd0:H2 d=none:=I2.hok.fresh hd
 have hde:d≠e:=fun z=>by rw [z,hH] at hd0;cases hd0
 have lt:∀b o,s2.heap.get? b=some o->b≠d:=fun b o q z=>absurd (tqd q) (by rw [z];exact Nat.not_lt.mpr hd)
 have ne:∀b,H2 b=none->b≠e:=fun b q z=>by rw [z,hH] at q;cases q
 have up:∀b,b≠d->b≠e->upd (upd H2 d (.xd [(fld,.int i)])) e (.ext (fz C (some d) e)) b=H2 b:=fun b z1 z2=>by rw [aP z2,aP z1]
 have nd:∀b u,H2 b=some u->b≠d:=fun b u q=>br q hd0
 refine ⟨σ,_,I2.un (h':=h') (t':=s2.toks+2) (H':=upd (upd H2 d (.xd [(fld,.int i)])) e (.ext (fz C (some d) e))) ⟨fun b o q n _ _=>kk b o (ne b n) q,fun b o q n _ _=>⟨o.slots,kk b o (ne b n) q⟩,fun b o q n _=>?_,fun b o q _=>?_,fun b xs q=>?_,fun b o u q=>?_,fun b ps q=>⟨#[],?_⟩⟩ fun b u q=>?_,q2 d hd0 hde⟩
 ·rw [up b (lt b o q) (ne b n)];exact n
 ·by_cases z:b=e
  ·exact ⟨_,by rw [z];exact hx'⟩
  ·exact ⟨o,kk b o z q⟩
 ·rw [up b (nd b _ q) (fun z=>by rw [z,hH] at q;cases q)];exact q
 ·rw [up b (nd b _ q) (fun z=>by rw [z,hH] at q;cases q)];exact q
 ·rw [up b (nd b _ q) (fun z=>by rw [z,hH] at q;cases q)];simpa using q
 ·by_cases z:b=e
  ·subst z
   rw [cb] at q;cases q
   exact qP ⟨_,vs,t0,hx',k2,rfl,k4,k5,k6⟩
  ·by_cases z2:b=d
   ·subst z2
    rw [aP hde,cb] at q;cases q
    refine ⟨_,hns,fun f=>?_⟩
    by_cases hf:f=fld
    ·subst hf
     simp only [List.lookup_cons,beq_self_eq_true,if_true]
     exact ⟨t,rfl⟩
    ·rw [if_neg hf]
     have:([(fld,V.int i)]:List (Str×V)).lookup f=none:=by simp [List.lookup_cons,beq_eq_false_iff_ne.mpr hf]
     rw [this];trivial
   ·rw [up b z2 z] at q
    refine (I2.hok b u q).stay (fun c v hc w=>kk c v ?_ w) (fun c w=>?_) fun c xs w=>?_
    ·rcases hc with hc|hc
     ·rw [hc];exact z
     ·intro y;rw [y,hH] at hc;cases hc
    ·rw [up c (nd c _ w) (fun y=>by rw [y,hH] at w;cases w)];exact w
    ·rw [up c (nd c _ w) (fun y=>by rw [y,hH] at w;cases w)];exact w
end
end LD
namespace LD
open PySem PySem.Spec PyProof.Rows
section
variable {prog:Program}{w:World}{A:Around}{E:Value->Shared->Prop}{h:Heap}{g:Array GenState}{d:Drawn}{t:Nat}{os:OsState}
variable {nm q:Str}{C N:Addr}{bs bm:List Value}{hdct:Bool}{sn:List Str}{sub:List Value}{ab:Bool}{col:Option Bool}{dd:Option Addr}{k0 k1 k2 k3 k5:Option Value}
theorem tw {mN:Str->Option Value}{rest:List Value}{fI:Addr}{oI:Obj}{Q:Fin->Shared->Prop}
 (hC:h.get? C=some (excClassObj nm q C N bs bm hdct sn sub ab col dd k0 k1 k2 k3 k5 "ValueError.__new__")) (T:OwnTail h mT bm) (hn:h.Ns N mN) (hi:mN "__init__"=some (.ref fI)) (hfI:h.get? fI=some oI) (hfc:oI.cls=.type "function")
 (hq:∀h' e,Heap.MadeExcOf h h' e (.ref C) rest->wpAny (model prog w) A (call (.ref fI) (.ref e::rest)) (fun r s'=>r=.none/\Q (.done (.ret (.ref e))) s') E ⟨h',g,d,t,os⟩) (hrest:rest.length<=sizeLine) :
 wpAny (model prog w) A (Builtin.«type.__call__» ⟨.ref C::rest,[]⟩) Q E ⟨h,g,d,t,os⟩:=by
 have F:=PySem.F.excBase_ValueError
 repeat (first|with_reducible refine wpAny_loadPart_at hC ?_|with_reducible refine wpAny_madeBy_exc hC ?_|wp_step)
 refine codeAny_call_builtin_code (Code.quiet_builtin _ F.quiet) (wpAny_check_new_subT F T hC ?_)
 refine codeAny_exc_new_subT F T hC ?_ hrest
 show wpAny _ _ _ _ _ _
 have kp:∀b o,h.get? b=some o->((h.push {cls:=.type "tuple",data:=.seq rest.toArray}).push {cls:=.ref C,data:=.fields #[.ref h.objs.size,.none,.none,.none,.bool false,.none]}).get? b=some o:=fun b o hb=>tqc _ (tqc _ hb)
 have hC₁:=kp _ _ hC
 have hfI₁:=kp _ _ hfI
 have hn₁:=hn.keeps kp
 have T₁:=T.keeps kp
 have hget:((h.push {cls:=.type "tuple",data:=.seq rest.toArray}).push {cls:=.ref C,data:=.fields #[.ref h.objs.size,.none,.none,.none,.bool false,.none]}).get? (h.objs.size+1)=some {cls:=.ref C,data:=.fields #[.ref h.objs.size,.none,.none,.none,.bool false,.none]}:=by heap_get
 have hcC:(Value.ref C::bm).contains (.ref C)=true:=by simp
 unfold isInstance
 repeat (first|with_reducible refine wpAny_loadPart_at hget ?_|(with_reducible refine wpAny_isSubtype_exc hC₁ ?_;rw [hcC])|wp_step)
 show wpAny _ _ (typeLookup (.ref C) _) _ _ _
 refine wpAny_typeLookup_tail hC₁ hn₁ T₁ F.mroIs F.init.lookup ?_
 rw [hi]
 refine tqo (tqa ?_)
 unfold bindSpecial
 refine tqa (wpAny_typeOf (T:="function") ⟨_,hfI₁,hfc⟩ ?_)
 rw [if_pos (by decide)]
 refine tqb (tqa (wpAny_mono (hq _ (h.objs.size+1) ⟨kp,Heap.get?_none_of_le (Nat.le_succ _),h.objs.size,hget,Heap.get?_none_of_le (tqg _),?_⟩) (fun r s' hr=>?_) fun _ _ x=>x))
 ·exact tqc _ (Heap.get?_push_at rfl rfl)
 ·obtain ⟨rfl,hQ⟩:=hr
  wp_walk
  exact hQ
theorem Ap {mN:Str->Option Value}{rest:List Value}{fI:Addr}{oI:Obj}{Q:Value->Shared->Prop}
 (hC:h.get? C=some (excClassObj nm q C N bs bm hdct sn sub ab col dd k0 k1 k2 k3 k5 "ValueError.__new__")) (T:OwnTail h mT bm) (hn:h.Ns N mN) (hi:mN "__init__"=some (.ref fI)) (hfI:h.get? fI=some oI) (hfc:oI.cls=.type "function")
 (hq:∀h' e,Heap.MadeExcOf h h' e (.ref C) rest->wpAny (model prog w) (A.under (.builtin "type.__call__" ⟨.ref C::rest,[]⟩)) (call (.ref fI) (.ref e::rest)) (fun r s'=>r=.none/\Q (.ref e) s') E ⟨h',g,d,t,os⟩) (hrest:rest.length<=sizeLine) :
 wpAny (model prog w) A (call (.ref C) rest) Q E ⟨h,g,d,t,os⟩:=by
 have f1:=tc_lookup
 have f2:=tc_bind (.ref C)
 have hT:(⟨h,g,d,t,os⟩:Shared).TypeIs (.ref C) "type":=⟨_,hC,rfl⟩
 refine wpAny_call (codeAny_of_tree ?_)
 show wpAny _ _ (callAny (.ref C) _) _ _ _
 repeat (any_goals (first|assumption|with_reducible refine wpAny_loadPart_at hC ?_|wp_step))
 refine ⟨rfl,?_⟩
 refine codeAny_call_builtin_at (Code.quiet_builtin _ (by decide +kernel)) entry_typeCall (wpAny_check_type_call_sub hC (tw hC T hn hi hfI hfc (fun h' e hm=>?_) hrest))
 exact hq h' e hm
end
end LD
namespace LD
open PySem PySem.Spec PyProof.Rows L2
def Dd (x m:Str)(a b:Expr)(p1 apos cpos:Pos)(env:PySem.Env):Prop:=∃pl,eval (.Call (.Attribute (.Name x p1) m apos) [a,b] [] cpos) env=(do
 let ov <- eval (.Name x p1) env
 standAt apos.atName
 let (f,first) <- holding [ov] (getMethod ov m pl)
 callWith cpos f first (backTo cpos (starEach [a,b] env)) (backToKw cpos (keywordEach [] env)))
def Kf (C:Addr)(fld:Str):Sp:=fun vs H Q _=>∃e i,vs=[.ref e,.int i]/\H e=some (.ext (fz C none e))/\i.natAbs<2^64/\∀d,H d=none->d≠e->Q .non (upd (upd H d (.xd [(fld,.int i)])) e (.ext (fz C (some d) e)))
theorem len_app (a b:Str):(a++b).length=a.length+b.length:=by
 show (Str.append a b).length=_
 unfold Str.append Str.length
 simp
theorem Aa {z y:Str}{i:Int}(hz:z.length<=1000)(hy:y.length<=1000)(hi:i.natAbs<2^64):fit z i y:=by
 have h1:i.natAbs.log2<1920:=by
  by_cases h0:i.natAbs=0
  ·rw [h0];decide
  ·exact tqi ((Nat.log2_lt h0).mpr hi) (by omega)
 have h2:((toString i:Str)).length<=1921:=PyProof.Rows.int_text_len_1921 h1
 have hs:sizeLine=16777216:=dQ.symm
 refine ⟨h1,?_,?_⟩
 ·rw [len_app];omega
 ·rw [len_app,len_app];omega
section
variable {P:Program}{w:World}{K:PySem.W.Frag}{mg:Str->Option Value}{base:Heap}{qual y fld z:Str}{st:Stmt}{f C D fI:Addr}{fd:FuncData}{p1 p2 p3 p4 p5 p6 p7 p8 p9 p10 p11 p12 p13:Pos}{j:Nat}
theorem HI (F:oX K "__init__" qual st f fd)(S:gP ["self",y] ["self",y] (aS st))
 (hb:dq st=[.Expr (.Call (.Attribute (.Name "DeedError" p1) "__init__" p2) [.Name "self" p3,.JoinedStr [.Constant (.str z) j p4,.FormattedValue (.Name y p5) (-1) none p6] p7] [] p8) p9,.Assign [.Attribute (.Name "self" p10) fld p11] (.Name y p12) p13])
 (hev:∀L cd,Dd "DeedError" "__init__" (.Name "self" p3) (.JoinedStr [.Constant (.str z) j p4,.FormattedValue (.Name y p5) (-1) none p6] p7) p1 p2 p8 (envOfC qual (aS st) L f cd))
 (hz:z.length<=1000) (hyd:(y==("__debug__":Str))=false) (hyc:(y==("__classdict__":Str))=false) (v0:(aS st).names.lookup ("self":Str)=some .local) (v1:(aS st).names.lookup y=some .local)
 (hg:∀L cd,(envOfC qual (aS st) L f cd).kindOf "DeedError"=some .globalImplicit) (hD:mg "DeedError"=some (.ref D)) (h1:PySem.W.readsIn K D (.type "type")=true) (h2:PySem.W.findCls K (.ref D) (.type "type") "__init__"=some (.val (.builtin "ValueError.__init__")))
 (h3:PySem.W.specialIn K (.ref D) "__getattribute__"=some (some (.builtin "type.__getattribute__"))) (hC:la K C fI=true) (hset:setIn K C fld=true):lR P w K mg base (iu P w) 1 f fd ["self",y] (Kf C fld):=by
 refine rQ F S (fun vs H Q E ⟨e,i,ev,_⟩=>by rw [ev];rfl) fun cdv A outer s H vs Q E hr ⟨e,i,ev,hH,hi,q⟩=>?_
 subst ev
 rw [hb]
 have V0:tu (fX (iu P w) P w K mg base ["self",y] qual (aS st) f cdv A outer s H E).env.scope "self":=.inl v0
 have V1:tu (fX (iu P w) P w K mg base ["self",y] qual (aS st) f cdv A outer s H E).env.scope y:=.inl v1
 have a0:∀p,PE (fX (iu P w) P w K mg base ["self",y] qual (aS st) f cdv A outer s H E) (.Name "self" p) (AU 0):=fun p=>qh (i:=0) rfl V0
 have a1:∀p,PE (fX (iu P w) P w K mg base ["self",y] qual (aS st) f cdv A outer s H E) (.Name y p) (AU 1):=fun p=>qh (i:=1) rfl V1 hyd hyc
 obtain ⟨pl,hev⟩:=hev s.heap.objs.size cdv
 refine ⟨_,pD (rf (Gk (pl:=pl) hD (hg _ _) h1 h2 h3 (a0 p3) (Jl (a1 p5)) rfl rfl rfl hev) rfl) (pD (DR (a0 p10) (a1 p12) rfl) wg),?_⟩
 refine ⟨.ref e,rfl,tqh hz (by rw [<- dQ];decide),.int i,rfl,i,rfl,Aa hz (by decide) hi,e,C,fI,rfl,hH,hC,?_⟩
 exact ⟨.int i,rfl,.ref e,rfl,e,C,i,rfl,rfl,hH,hset,fun d hd hde=>q d hd hde⟩
end
end LD
namespace LD
open PySem PySem.Spec PyProof.Rows L2
def mh (fa:Fa)(P:Program)(w:World)(K:PySem.W.Frag)(mg:Str->Option Value)(base:Heap)(c:Nat)(x:Str):Prop:=
 ∃C fI fd y oI,mg x=some (.ref C)/\fa (du c)=some C/\la K C fI=true/\PySem.W.keepIn K (.ref C)=true/\K.lookup fI=some oI/\oI.cls=.type "function"/\Binds K fd ["self",y] []/\lR P w K mg base (iu P w) 1 fI fd ["self",y] (Kf C (fU c))
section
variable {X:Cx}{pins:List (Addr×Obj)}{σ:L2.St}{H H0:Hp}{s:Shared}{fa:Fa}
theorem vR {a:Addr}{φ:Heap->Prop}(I:Inv X pins σ H s)(ha:H a=some (.ext φ))(hH:∀b,b≠a->H0 b=H b)(hz:H0 a=none):Inv X pins σ H0 s:=by
 have nn:∀b,H b=none->b≠a:=fun b q z=>by rw [z,ha] at q;cases q
 have no:∀b u,H b=some u->(∀φ,u≠.ext φ)->H0 b=some u:=fun b u q n=>by
  rw [hH b (fun z=>by rw [z,ha] at q;cases q;exact n _ rfl)];exact q
 refine ⟨I.ok,I.os,I.bare,⟨I.base.keep,I.base.slot,fun b o e n hx=>?_,I.base.there,fun b xs e=>?_,fun b o u e=>?_,fun b ps e=>?_⟩,I.loc,I.cell,?_,fun x c e=>?_,fun p hp'=>?_,fun b u e=>?_,I.len⟩
 ·have q:=I.base.free b o e n hx
  rw [hH b (nn b q)];exact q
 ·exact no _ _ (I.base.tups b xs e) (fun _ z=>nomatch z)
 ·exact no _ _ (I.base.frzs b o u e) (fun _ z=>nomatch z)
 ·obtain ⟨m,q⟩:=I.base.tbls b ps e
  exact ⟨m,no _ _ q (fun _ z=>nomatch z)⟩
 ·rw [hH _ (nn _ I.free)];exact I.free
 ·rw [hH _ (nn _ (I.freeC x c e))];exact I.freeC x c e
 ·obtain ⟨e,n,r⟩:=I.pin p hp'
  exact ⟨e,by rw [hH _ (nn _ n)];exact n,r⟩
 ·by_cases hb:b=a
  ·rw [hb,hz] at e;cases e
  ·rw [hH b hb] at e
   exact (I.hok b u e).stay (fun c v _ q=>q) (fun c q=>no _ _ q (fun _ z=>nomatch z)) fun c xs q=>no _ _ q (fun _ z=>nomatch z)
theorem Hv {c:Nat}{x:Str}{C:Addr}{i:Int}{t:Tok}{Q:Value->Shared->Prop}(J:mh fa X.prog X.w X.K X.mg X.base c x)(hr:cy 2 X.A)(hex:X.ex=[])(I:Inv X pins σ H s)(hC:X.mg x=some (.ref C))(hi:i.natAbs<2^64)
 (h:∀e d s',fa (du c)=some C->n6 X e->H e=none->H d=none->d≠e->Inv X pins σ (upd (upd H d (.xd [(fU c,.int i)])) e (.ext (fz C (some d) e))) s'->Q (.ref e) s'):wpAny (model X.prog X.w) X.A (call (.ref C) [.int i t]) Q X.xe s:=by
 obtain ⟨C',fI,fd,y,oI,m1,hf,hin,hk,hfI,hfc,hb,F⟩:=J
 rw [hC] at m1
 cases m1
 obtain ⟨bm,N,nm,q,bs,hdct,sn,sub,ab,col,dd,k0,k1,k2,k3,k5,mN,hCo,hN,hni,T⟩:=nQ I.kIn hin
 obtain ⟨hp,g,dr,tk,os⟩:=s
 refine Ap hCo T hN hni (I.kIn _ _ hfI) hfc (fun h' e hm=>?_) (by rw [<- dQ];exact tqq rfl)
 obtain ⟨tp,ht,_,_⟩:=hm.there
 obtain ⟨n1,n2⟩:=pJ I hex hm.new
 have I1:=I.kept (t':=tk) hm.keeps
 have I2:Inv X pins σ (upd H e (.ext (fz C none e))) ⟨h',g,dr,tk,os⟩:=sQ I1 hex n2 n1.1 ⟨_,_,ht,rfl⟩ (fun p hp z=>by
  have:=(I.pin p hp).1
  rw [z,hm.new] at this;cases this) (qP ⟨_,_,tp,ht,rfl,rfl,rfl,rfl,rfl⟩)
 have hb':=hb ⟨h',g,dr,tk,os⟩ [.ref e,.int i t] I2.kIn rfl
 rw [List.append_nil] at hb'
 refine wpAny_call (codeAny_mono (F.run _ X.stack ⟨h',g,dr,tk,os⟩ (upd H e (.ext (fz C none e))) ⟨[.ref e,.int i t],[]⟩ [.ref e,.int i t] [.ref e,.int i] (fun v H'=>v=.non/\∃d,H d=none/\d≠e/\H'=upd (upd H d (.xd [(fU c,.int i)])) e (.ext (fz C (some d) e))) (fun _ _ _=>False) (hr.make C [.int i t] []) (I2.env0.make C [.int i t] []) hb' (.cons rfl (.cons ⟨t,rfl⟩ .nil)) ?_) fun r s' hq'=>?_)
 ·refine ⟨e,i,rfl,cb,hi,fun d hd hde=>⟨rfl,d,by rw [aP hde] at hd;exact hd,hde,?_⟩⟩
  funext b
  unfold upd
  split
  ·rfl
  ·split
   ·rfl
   ·rfl
 ·cases r with
  | error e' =>
    obtain ⟨_,_,_,_,_,_,_,_,_,_,z⟩:=hq'
    exact z.elim
  | ok fl =>
    cases fl with
    | ret u =>
      obtain ⟨v,H',I3,rv,ev,d,hd,hde,eH⟩:=I2.after hq'
      subst ev eH
      exact ⟨rv,h e d s' hf n1 n2 hd hde I3⟩
    |next=>exact False.elim hq'
    |brk=>exact False.elim hq'
    |cont=>exact False.elim hq'
end
def gMkI (c:Nat)(a:GE):GE:=fun Z M=>(a Z M).bind fun d M=>match d with
 |.int i=>if i.natAbs<2^64 then .ok (.exc c (some i)) M else .bad
 |_=>.bad
def jk (c:Nat)(a:GE):GS:=fun Z M=>match a Z M with
 |.ok (.int i) M=>if i.natAbs<2^64 then .ok (.exc (.exc c (some i)) Z) M else .bad
 |_=>.bad
def k9 (f:Str)(a:GE):GE:=fun Z M=>(a Z M).bind fun d M=>match d with
 |.exc c (some i)=>if fU c=f then .ok (.int i) M else .bad
 |_=>.bad
theorem xg {M:Model}{A:Around}{E:Value->Shared->Prop}{env:PySem.Env}{nm q:Str}{C N:Addr}{bs bm:List Value}{hdct:Bool}{sn:List Str}{sub:List Value}{ab:Bool}{col:Option Bool}{dd:Option Addr}{k0 k1 k2 k3 k5:Option Value}{newId:String}
 {s:Shared}{x:Sem Value}{Q:Flow->Shared->Prop} (hbase:bm.contains (.type "BaseException")=true) (hh:A.handled=none)
 (h:wpAny M A x (fun v s₁=>∃e o vs,v=.ref e/\s₁.heap.get? C=some (excClassObj nm q C N bs bm hdct sn sub ab col dd k0 k1 k2 k3 k5 newId)/\s₁.heap.get? e=some o/\o.cls=.ref C/\o.data=.fields vs/\vs[1]?=some .none/\E (.ref e) s₁) E s) :
 wpAny M A (raiseStmt env (some x) none) Q E s:=by
 have hcB:(Value.ref C::bm).contains (.type "BaseException")=true:=by rw [List.contains_cons,hbase,Bool.or_true]
 unfold raiseStmt
 refine tqa (wpAny_mono h (fun v s₁ h₁=>?_) fun _ _ x=>x)
 obtain ⟨e,⟨cl,od,da,sl⟩,vs,rfl,hC,he,hc,hd,h1,hE⟩:=h₁
 obtain rfl:cl=.ref C:=hc
 obtain rfl:da=.fields vs:=hd
 obtain ⟨hp,g,d,tk,os⟩:=s₁
 repeat (first|with_reducible refine wpAny_loadPart_at he ?_|with_reducible refine wpAny_loadPart_at hC ?_|(with_reducible refine wpAny_isSubtype_exc hC ?_;rw [hcB])|(with_reducible refine tqf he rfl h1 ?_)|wp_step)
 exact wpAny_raiseNew_none hh hE
section
variable {fa:Fa}{X:Cx}{a b:Expr}{ga gb:GE}{ta:GT}{pos p np cpos:Pos}{es:List Expr}{gs:GA}{n:Nat}{x:Str}
theorem B8 (c:Nat){pins:List (Addr×Obj)}{σ:L2.St}{H:Hp}{s:Shared}{Q:Value->Shared->Prop}(J:mh fa X.prog X.w X.K X.mg X.base c x)(hr:cy 2 X.A)(hex:X.ex=[])(hg:Gl X x)(ha:DE fa X a ga)(hdb:(x==("__debug__":Str))=false)(he:notStar a=true)(I:Inv X pins σ H s)
 (h:∃μ Z M,bK fa X.K μ H σ Z/\RelM fa X.K μ H M/\aj (ga Z M) fun d M'=>∃i,d=.int i/\i.natAbs<2^64/\∀H1 μ1 e d C s',Ext μ H μ1 H1->bK fa X.K μ1 H1 σ Z->RelM fa X.K μ1 H1 M'->X.mg x=some (.ref C)->fa (du c)=some C->n6 X e->H1 e=none->H1 d=none->d≠e->Inv X pins σ (upd (upd H1 d (.xd [(fU c,.int i)])) e (.ext (fz C (some d) e))) s'->Q (.ref e) s') :
 wpAny (model X.prog X.w) X.A (eval (.Call (.Name x np) [a] [] cpos) X.env) Q X.xe s:=by
 obtain ⟨μ,Z,M,hE,hM,h⟩:=h
 obtain ⟨C,fI,fd,y,oI,m1,hf,hin,hk,r⟩:=id J
 refine wpAny_Call_Name_kw (jq I hg m1 ?_ hdb)
 refine PySem.W.callWith_K (h₀:=X.base) I.ok.mod.kin hk (bp (cp ha eh (cI he) cpos pins s σ H (fun vs H1=>∃μ1 M1 i,Ext μ H μ1 H1/\RelM fa X.K μ1 H1 M1/\vs=[.int i]/\i.natAbs<2^64/\∀H1 μ1 e d C s',Ext μ H μ1 H1->bK fa X.K μ1 H1 σ Z->RelM fa X.K μ1 H1 M1->X.mg x=some (.ref C)->fa (du c)=some C->n6 X e->H1 e=none->H1 d=none->d≠e->Inv X pins σ (upd (upd H1 d (.xd [(fU c,.int i)])) e (.ext (fz C (some d) e))) s'->Q (.ref e) s') I ⟨μ,Z,M,hE,hM,bo h fun d M' ⟨i,ed,hi,k⟩ v H1 μ1 x1 m1 r1=>by
  subst ed
  obtain rfl:v=.int i:=r1
  exact ⟨μ1,M',i,x1,m1,rfl,hi,k⟩⟩) fun us s1 ⟨vs,H1,I1,r,μ1,M1,i,x1,mm,ev,hi,k⟩=>⟨I1.kIn,?_⟩) (cI he) (dX (es:=[]) rfl)
 subst ev
 cases r with
 | cons r1 r2 =>
   cases r2
   obtain ⟨t,rfl⟩:=r1
   exact Hv J hr hex I1 m1 hi fun e d s' hfa n1 n2 hd hde I3=>k H1 μ1 e d C s' x1 (hE.ext x1) mm m1 hfa n1 n2 hd hde I3
theorem Ba (c:Nat)(J:mh fa X.prog X.w X.K X.mg X.base c x)(hr:cy 2 X.A)(hex:X.ex=[])(hg:Gl X x)(hc:X.calm=true)(ha:DE fa X a ga)(hdb:(x==("__debug__":Str))=false)(he:notStar a=true):DS fa X (.Raise (some (.Call (.Name x np) [a] [] cpos)) none pos) (jk c ga):=by
 intro pins s σ H D' I ⟨μ,Z,M,hE,hM,h⟩
 obtain ⟨C,fI,fd,y,oI,m1,hf,hin,hk,r⟩:=id J
 obtain ⟨bm,N,nm,q,bs,hdct,sn,sub,ab,col,dd,k0,k1,k2,k3,k5,mN,hCo,hN,hni,T⟩:=nQ I.ok.mod.kin hin
 rw [arm_exec_Raise]
 simp only [evalOpt,Option.map]
 refine tqa (wpAny_standAt (xg (C:=C) (nm:=nm) (q:=q) (N:=N) (bs:=bs) (bm:=bm) (hdct:=hdct) (sn:=sn) (sub:=sub) (ab:=ab) (col:=col) (dd:=dd) (k0:=k0) (k1:=k1) (k2:=k2) (k3:=k3) (k5:=k5) (newId:="ValueError.__new__") (T.hasType (by decide +kernel)) (I.ok.hd hc) (tqa (wpAny_mono (B8 (Q:=fun v s₁=>∃e o vs,v=.ref e/\s₁.heap.get? C=some (excClassObj nm q C N bs bm hdct sn sub ab col dd k0 k1 k2 k3 k5 "ValueError.__new__")/\s₁.heap.get? e=some o/\o.cls=.ref C/\o.data=.fields vs/\vs[1]?=some .none/\X.xe (.ref e) s₁) c J hr hex hg ha hdb he I ?_) (fun v s₃ h₃=>tqa (wpAny_standAt (tqb h₃))) fun _ _ x=>x))))
 refine ⟨μ,Z,M,hE,hM,?_⟩
 unfold jk at h
 cases eg:ga Z M with
 |err=>rw [eg] at h;exact h.elim
 |bad=>rw [eg] at h;exact h.elim
 | ok x0 M1 =>
   rw [eg] at h
   cases x0 with
   | int i =>
     dsimp only at h
     split at h
     ·next hi=>
      have h:XW fa X μ H (.exc c (some i)) Z M1:=h
      refine ⟨i,rfl,hi,fun H1 μ1 e d C' s' x1 hE1 hM1 hm hf nw he hd hde I3=>?_⟩
      rw [m1] at hm
      cases hm
      have ne:upd (upd H1 d (.xd [(fU c,.int i)])) e (.ext (fz C (some d) e)) e=some (.ext (fz C (some d) e)):=cb
      obtain ⟨⟨o,vs,t0,g1,g2,g3,g4,g5,g6⟩,_,_⟩:=I3.hok e _ ne
      have he':upd H1 d (.xd [(fU c,.int i)]) e=none:=by rw [aP (Ne.symm hde)];exact he
      have I4:Inv X pins σ (upd H1 d (.xd [(fU c,.int i)])) s':=vR I3 ne (fun b hb=>(aP hb).symm) he'
      have hMd:RelM fa X.K μ1 (upd H1 d (.xd [(fU c,.int i)])) M1:=hM1.alloc hd
      have xd:=Ext.alloc (o:=.xd [(fU c,.int i)]) hM1 hd
      exact ⟨e,o,vs,rfl,I3.bk _ _ hCo,g1,g2,g4,g6,h pins σ _ μ1 s' e C (some d) c (some i) I4 (x1.trans xd) (hE1.ext xd) hMd rfl hf ⟨d,rfl,cb⟩ ⟨nw,he',o,vs,g1,g2,g3,g4,.inl g6⟩⟩
     ·exact h.elim
   |_=>exact h.elim
def Au (fa:Fa)(K:PySem.W.Frag)(f:Str):Prop:=∀c C,fa (du c)=some C->fU c=f->PySem.W.hasDictIn K C=true/\PySem.W.findIn K (.ref C) f=some none
theorem DL (f:Str)(hc:lG fa X.K)(hf:Au fa X.K f)(ha:DE fa X a ga)(hb:attributeBase a f X.env (eval a X.env)=eval a X.env):DE fa X (.Attribute a f pos) (k9 f ga):=by
 intro pins s σ H Q I ⟨μ,Z,M,hE,hM,h⟩
 obtain ⟨x0,M1,eg,h⟩:=a9 h
 refine E2 hb (bp (ha pins s σ H (fun v H1=>∃μ1,Ext μ H μ1 H1/\RelM fa X.K μ1 H1 M1/\Rep fa X.K μ1 H1 x0 v) I ⟨μ,Z,M,hE,hM,by rw [eg];exact fun v H1 μ1 x1 m1 r1=>⟨μ1,x1,m1,r1⟩⟩) fun u s1 ⟨v,H1,I1,rv,μ1,x1,m1,r1⟩=>?_)
 cases x0 with
 | exc c p =>
   cases p with
   |none=>exact h.elim
   | some i =>
     dsimp only at h
     split at h
     ·next ef=>
      obtain ⟨e,C,dx,rfl,hfa,hH,d,rfl,hd⟩:=r1
      obtain rfl:u=Value.ref e:=rv
      obtain ⟨⟨o,vs,h1,h2,h3,h4,h5⟩,_,_⟩:=I1.hok e _ hH
      obtain ⟨mA,hns,hl⟩:=I1.hok d _ hd
      obtain ⟨od,hod,look⟩:=sO hns
      have IA:PySem.W.InstAt s1.heap e o C (some od):=⟨h1,h2,by unfold PySem.W.notCls;rw [h4],by rw [h3];exact hod⟩
      have hlf:=hl f
      rw [ef] at hlf
      simp only [List.lookup_cons,beq_self_eq_true] at hlf
      obtain ⟨u,hu,ru⟩:=sd.some_of hlf
      obtain ⟨t,rfl⟩:=ru
      obtain ⟨f1,f2⟩:=hf c C hfa ef
      unfold getAttr
      refine tqa (wpAny_mkText (wJ (s:={s1 with toks:=s1.toks+1}) (r:=.value (.int i t)) I1.kIn IA (hc.g c C hfa).1 (PySem.W.findObj_own f1 f2 rfl (by rw [look f,hu])) ?_))
      exact PySem.W.handed_on rfl ⟨.int i,H1,I1.tok _,⟨t,rfl⟩,h (.int i) H1 μ1 x1 m1 rfl⟩
     ·exact h.elim
 |_=>exact h.elim
end
end LD
namespace LD
open PySem PySem.Spec PyProof.Rows L2
theorem CA {n:Nat}{A:Around}(h:cy (n+4) A):cy 2 A:=h.mono (by omega)
def inC (s:Stmt):Stmt:=match s with
 |.ClassDef _ _ _ (b::_) _ _ _ _ _ _ _=>b
 |_=>s
def HQ (z y:Str)(a:GE):GE:=fun Z M=>(a Z M).bind fun d M=>match d with
 |.int i=>if z.length<=1000/\y.length<=1000/\i.natAbs<2^64 then .ok (.str (z++(toString i:Str)++y)) M else .bad
 |_=>.bad
theorem K0 {fa:Fa}{X:Cx}{a:Expr}{ga:GE}{pos p1 p2 p3:Pos}{j j2:Nat}{z y:Str}(ha:DE fa X a ga):DE fa X (.JoinedStr [.Constant (.str z) j p1,.FormattedValue a (-1) none p2,.Constant (.str y) j2 p3] pos) (HQ z y ga):=
 cn (Jk ha) fun σ H Q ⟨μ,Z,M,hE,hM,h⟩=>by
  obtain ⟨x0,M1,eg,h1⟩:=a9 h
  cases x0 with
  | int i =>
    have h1:aj (if z.length<=1000/\y.length<=1000/\i.natAbs<2^64 then .ok (.str (z++(toString i:Str)++y)) M1 else .bad) (bH fa X.K μ H Q):=h1
    split at h1
    ·next hm=>
     refine ⟨tqh hm.1 (by rw [<- dQ];decide),μ,Z,M,hE,hM,?_⟩
     rw [eg]
     intro v H1 μ1 x1 m1 r1
     obtain rfl:v=.int i:=r1
     exact ⟨i,rfl,Aa hm.1 hm.2.1 hm.2.2,h1 (.str _) H1 μ1 x1 m1 rfl⟩
    ·exact h1.elim
  |_=>exact h1.elim
def HJ (K:PySem.W.Frag)(C D fI:Addr)(fld:Str):Bool:=la K C fI&&PySem.W.keepIn K (.ref C)&&PySem.W.readsIn K D (.type "type")&&(PySem.W.specialIn K (.ref D) "__getattribute__"==some (some (.builtin "type.__getattribute__")))&&setIn K C fld&&PySem.W.keepIn K (.ref fI)
theorem BZ {fa:Fa}{w:World}{K:PySem.W.Frag}{mg:Str->Option Value}{h:Heap}{c:Nat}{x qual y z pm:Str}{st:Stmt}{C D fI cd:Addr}{t:Tok}{p1 p2 p3 p4 p5 p6 p7 p8 p9 p10 p11 p12 p13:Pos}{j:Nat}(X:K.In h)(G:h.Ns mainGlobals mg)
 (a:PySem.W.nsIn K mainGlobals x=some (some (.ref C))) (aD:PySem.W.nsIn K mainGlobals "DeedError"=some (some (.ref D))) (hf:fa (du c)=some C) (b:HJ K C D fI (fU c)=true) (h2:PySem.W.findCls K (.ref D) (.type "type") "__init__"=some (.val (.builtin "ValueError.__init__")))
 (l:K.lookup fI=some ⟨.type "function",none,.func (PySem.W.fnOf "__init__" qual (fT st) (dq st) (aS st) .none .none .none (.str pm t) none (.ref cd) .none),#[]⟩) (e:PySem.W.codeIn K (.ref cd) qual=true) (S:gP ["self",y] ["self",y] (aS st))
 (hb:dq st=[.Expr (.Call (.Attribute (.Name "DeedError" p1) "__init__" p2) [.Name "self" p3,.JoinedStr [.Constant (.str z) j p4,.FormattedValue (.Name y p5) (-1) none p6] p7] [] p8) p9,.Assign [.Attribute (.Name "self" p10) (fU c) p11] (.Name y p12) p13])
 (hev:∀L cd,Dd "DeedError" "__init__" (.Name "self" p3) (.JoinedStr [.Constant (.str z) j p4,.FormattedValue (.Name y p5) (-1) none p6] p7) p1 p2 p8 (envOfC qual (aS st) L fI cd))
 (hz:z.length<=1000) (hyd:(y==("__debug__":Str))=false) (hyc:(y==("__classdict__":Str))=false) (v0:(aS st).names.lookup ("self":Str)=some .local) (v1:(aS st).names.lookup y=some .local)
 (hg:∀L cd,(envOfC qual (aS st) L fI cd).kindOf "DeedError"=some .globalImplicit)
 (hbd:∀(kV doc pm:Value) (an:Option Addr) (cdv ct u1 u2:Value),bindArgs (PySem.W.fnOf "__init__" qual (fT st) (dq st) (aS st) .none kV doc pm an cdv ct) ⟨[u1,u2],[]⟩=pure ((["self",y]:List Str).zip [u1,u2])) (P:Program) (base:Heap):mh fa P w K mg base c x:=by
 simp only [HJ,Bool.and_eq_true,beq_iff_eq] at b
 obtain ⟨⟨⟨⟨⟨b1,b2⟩,b3⟩,b4⟩,b5⟩,b6⟩:=b
 have F:=zZ l e b6
 exact ⟨C,fI,_,y,_,PySem.W.mg_of X G a,hf,b1,b2,l,rfl,F.binds fun kV doc pm an cdv ct us hl=>J9 (p:=fun us=>bindArgs (PySem.W.fnOf "__init__" qual (fT st) (dq st) (aS st) .none kV doc pm an cdv ct) ⟨us,[]⟩=pure ((["self",y]:List Str).zip us)) (hbd kV doc pm an cdv ct) us hl,
  HI F S hb hev hz hyd hyc v0 v1 hg (PySem.W.mg_of X G aD) b3 h2 b4 b1 b5⟩
def E9 (K:PySem.W.Frag)(cl:List (Nat×Addr))(f:Str):Bool:=cl.all fun q=>!(fU q.1==f)||(PySem.W.hasDictIn K q.2&&PySem.W.findIn K (.ref q.2) f==some none)
theorem yE {K:PySem.W.Frag}{l cl:List (Nat×Addr)}{D:Addr}{f:Str}(h:E9 K cl f=true):Au (Ab l cl D) K f:=fun c C e ef=>by
 unfold E9 at h
 have:=(List.all_eq_true.mp h) _ (lZ e)
 simp only [ef,beq_self_eq_true,Bool.not_true,Bool.false_or,Bool.and_eq_true,beq_iff_eq] at this
 exact this
end LD
namespace LD
open PySem PySem.Spec PyProof.Rows L2
mutual
theorem vX:∀d:D,(toPy d).hasDict=false
 |.non=>rfl
 |.bl _=>rfl
 |.int _=>rfl
 |.str _=>rfl
 |.tup ds=>by show PyData.hasDict (.tuple (bS ds))=false;rw [PyData.hasDict];exact pq ds
 |.lst ds=>by show PyData.hasDict (.list (bS ds))=false;rw [PyData.hasDict];exact pq ds
 |.frz _=>rfl
 |.cell _=>rfl
 |.fn _=>rfl
 |.exc _ _=>rfl
theorem pq:∀ds:List D,PyData.hasDictAll (bS ds)=false
 |[]=>rfl
 |d::r=>by show PyData.hasDictAll (toPy d::bS r)=false;rw [PyData.hasDictAll,vX d,pq r];rfl
end
def iF (M:Mem)(x:D):Str:=(toPy (cP 64 M x)).shown
def oi (M:Mem)(x:D):Bool:=aG 64 (cP 64 M x)&&((toPy (cP 64 M x)).showable&&decide ((iF M x).length<=sizeLine))
def CB:List D->Mem->Res D
 |[x],M=>if oi M x=true then .ok (.str (iF M x)) M else .bad
 |_,_=>.bad
def j4 (s:GA):GE:=fun Z M=>(s Z M).bind fun ds M=>CB ds M
def Jd (fa:Fa)(K:PySem.W.Frag):List V->Hp->VK->Prop:=fun vs H Q=>∃μ M ds,RelM fa K μ H M/\aX fa K μ H ds vs/\aj (CB ds M) (bH fa K μ H Q)
section
variable {fa:Fa}{X:Cx}{a:Expr}{es:List Expr}{gs:GA}{p pos:Pos}{n:Nat}
theorem HR (hr:cy (n+4) X.A):dj X (.builtin "repr") (Jd fa X.K):=by
 intro pins s σ H xs us Q I r h
 obtain ⟨μ,M,ds,hM,rl,h⟩:=h
 match ds,rl,h with
 |[],_,h=>exact h.elim
 |_::_::_,_,h=>exact h.elim
 | [d], rl, h =>
   obtain ⟨v,rfl,hv⟩:=qe rl
   obtain ⟨u,rfl,ru⟩:=vals1 r
   have h:aj (if oi M d=true then .ok (.str (iF M d)) M else .bad) (bH fa X.K μ H Q):=h
   split at h
   ·next hs=>
    unfold oi at hs
    rw [Bool.and_eq_true,Bool.and_eq_true] at hs
    obtain ⟨hp,hw,hl⟩:=hs
    have hl:=of_decide_eq_true hl
    obtain ⟨as,R⟩:=jv I hM 64 64 d v u hp hv ru
    have dep:=(og 64 _ hp).2
    have un:=hr.un
    have fin:∀(h':Heap) (t:Tok) (tk:Nat),(∀(b:Addr) (o:Obj),s.heap.get? b=some o->h'.get? b=some o)->EP X pins σ Q (.str (iF M d) t) {s with heap:=h',toks:=tk}:=fun h' t tk k=>⟨.str (iF M d),H,I.kept k,⟨t,rfl⟩,bE (v:=.str _) hM h rfl⟩
    unfold iF at fin hl
    have nd:=vX (cP 64 M d)
    generalize toPy (cP 64 M d)=py at R hw dep hl fin nd
    cases R with
    |none=>exact P.repr_of_none (fin _ _ _ fun _ _ e=>e)
    |bool b=>exact P.repr_of_bool (by rw [PyData.shown] at fin;exact fin _ _ _ fun _ _ e=>e)
    |int i t=>exact P.repr_of_int (by rw [PyData.showable] at hw;exact of_decide_eq_true hw) (fin _ _ _ fun _ _ e=>e)
    |str x t=>exact P.repr_of_str (fin _ _ _ fun _ _ e=>e) hl
    |list e1 e2 e3 e4=>exact repr_of_reads' (.list e1 e2 e3 e4) hw (fun z=>by rw [nd] at z;cases z) hr.gd (by omega) (fun _ _ e=>e) (fun h' t tk k=>fin h' t tk k) hl
    |tuple e1 e2 e3 e4=>exact repr_of_reads' (.tuple e1 e2 e3 e4) hw (fun z=>by rw [nd] at z;cases z) hr.gd (by omega) (fun _ _ e=>e) (fun h' t tk k=>fin h' t tk k) hl
    |dict e1 e2 e3 e4 e5=>cases nd
   ·exact h.elim
end
end LD
namespace LD
open PySem PySem.Spec PyProof.Rows L2
structure aF (p:Prop):Prop where
 h:p
section
variable {fa:Fa}{X:Cx}{a b c d elt tg iter t2 i2:Expr}{ga gb gd ge:GE}{ta tb gc:GT}{pos p p2 py spos:Pos}{es:List Expr}{gs:GA}{n:Nat}{scope:Scope}{own bn:List Str}{t u:dv}{gw gw2:GW}{i j:Nat}{x y nm:Str}{np hp apos cpos kp p1:Pos}{body suite:List Stmt}{b0:Stmt}{gB gH:GS}{j2:Nat}{p3:Pos}{z:Str}
theorem ax {i:Nat}{x:Str}(hN:X.N.Nodup)(hi:X.N[i]?=some x:=by exact rfl)(hx:Loc X.env.scope x:=by first|exact .inl rfl|exact .inr rfl|exact .inr (.inl rfl)|exact .inr (.inr rfl))(hf:X.fn x=true\/X.env.scope.names.lookup x=some .local:=by first|exact .inl rfl|exact .inr rfl|exact .inr (.inl rfl)|exact .inr (.inr rfl)):aF (PG X (.Name x pos) (gT fa X.K (.one i))):=⟨EO hN hi hx hf⟩
theorem dz (hN:X.N.Nodup){l:List Nat}{ns:List Expr}{k:Nat}(h:lH X l ns)(hc:X.calm=true:=by exact rfl):aF (PG X (.Tuple ns k pos) (gT fa X.K (.tup l))):=⟨Ik hc hN h⟩
theorem fR (ha:aF (DE fa X a ga)):aF (DI fa X tg a (iR ga)):=⟨Ij ha.h⟩
theorem eV (ha:aF (DE fa X a ga))(hm:X.mg "range"=none)(hg:Gl X "range":=by exact rfl)(hs:starEach [a] X.env=[(false,eval a X.env)]:=by exact rfl):aF (DI fa X tg (.Call (.Name "range" p) [a] [] pos) (gj ga)):=⟨EM ha.h hg hm hs⟩
theorem pf {elts:List Expr}{kk:Nat}{tp:Pos}(ha:aF (DE fa X a ga))(hm:X.mg "enumerate"=none)(hg:Gl X "enumerate":=by exact rfl)(hs:starEach [a] X.env=[(false,eval a X.env)]:=by exact rfl):aF (DI fa X (.Tuple elts kk tp) (.Call (.Name "enumerate" p) [a] [] pos) (mK ga)):=⟨EN ha.h hg hm hs⟩
theorem AF {fa:Fa}{X:Cx}{elts:List Expr}{kk:Nat}{tp p pos:Pos}{e0 e1:Expr}{g0 g1:Env->Mem->Res D}(h0:aF (DE fa X e0 g0))(h1:aF (DE fa X e1 g1))(hm:X.mg "zip"=none)(hg:Gl X "zip":=by exact rfl)(hs0:starEach [e0,e1] X.env=[(false,eval e0 X.env),(false,eval e1 X.env)]:=by exact rfl)(hs1:starEach [e1] X.env=[(false,eval e1 X.env)]:=by exact rfl):aF (DI fa X (.Tuple elts kk tp) (.Call (.Name "zip" p) [e0,e1] [] pos) (ot g0 g1)):=⟨EK h0.h h1.h hg hm hs0 hs1⟩
theorem AE {fa:Fa}{X:Cx}{elts:List Expr}{kk:Nat}{tp p pos:Pos}{e0 e1 e2:Expr}{g0 g1 g2:Env->Mem->Res D}(h0:aF (DE fa X e0 g0))(h1:aF (DE fa X e1 g1))(h2:aF (DE fa X e2 g2))(hm:X.mg "zip"=none)(hg:Gl X "zip":=by exact rfl)(hs0:starEach [e0,e1,e2] X.env=[(false,eval e0 X.env),(false,eval e1 X.env),(false,eval e2 X.env)]:=by exact rfl)(hs1:starEach [e1,e2] X.env=[(false,eval e1 X.env),(false,eval e2 X.env)]:=by exact rfl)(hs2:starEach [e2] X.env=[(false,eval e2 X.env)]:=by exact rfl):aF (DI fa X (.Tuple elts kk tp) (.Call (.Name "zip" p) [e0,e1,e2] [] pos) (qB g0 g1 g2)):=⟨EJ h0.h h1.h h2.h hg hm hs0 hs1 hs2⟩
theorem aa {i:Nat}{x:Str}(hN:X.N[i]?=some x:=by exact rfl)(hv:tu X.env.scope x:=by first|exact .inl rfl|exact .inr rfl|exact .inr (.inl rfl)|exact .inr (.inr rfl))(hd:(x==("__debug__":Str))=false:=by exact rfl)(hcd:(x==("__classdict__":Str))=false:=by exact rfl):aF (DE fa X (.Name x pos) (ag i)):=⟨JJ hN hv hd hcd⟩
theorem ak {i:Int}{j:Nat}:aF (DE fa X (.Constant (.int i) j pos) (gC (.int i))):=⟨JT⟩
theorem cN {i:Bool}{j:Nat}:aF (DE fa X (.Constant (.bool i) j pos) (gC (.bl i))):=⟨L7⟩
theorem bz {i:Str}{j:Nat}:aF (DE fa X (.Constant (.str i) j pos) (gC (.str i))):=⟨JL⟩
theorem gY {j:Nat}:aF (DE fa X (.Constant .none j pos) (gC .non)):=⟨JP⟩
theorem aA {m:Bool}{o:pb}(ha:aF (DE fa X a ga))(hb:aF (DE fa X b gb)):aF (DE fa X (.BinOp a (binOp o) b pos) (aH m o ga gb)):=⟨JX m o ha.h hb.h⟩
theorem fJ (hu:Rm X){o:ir}(ha:aF (DE fa X a ga))(hb:aF (DE fa X b gb))(hm:behindInMarks (cW o) b=false:=by exact rfl):aF (DE fa X (.Compare a [cW o] [b] pos) (a7 o ga gb)):=⟨JV hu o ha.h hb.h hm⟩
theorem bh (hu:Rm X){o:ir}(ha:aF (DE fa X a ga))(hb:aF (DE fa X b gb))(hm:behindInMarks (cW o) b=false:=by exact rfl):aF (DT fa X (.Compare a [cW o] [b] pos) (aL (a7 o ga gb))):=⟨H9 hu o ha.h hb.h hm⟩
theorem yC (hu:Rm X){o:ir}{o':ir}{gc:GE}(ha:aF (DE fa X a ga))(hb:aF (DE fa X b gb))(hc:aF (DE fa X d gc))(hm:lastMarks [cW o,cW o'] [b,d]=false:=by exact rfl):aF (DE fa X (.Compare a [cW o,cW o'] [b,d] pos) (lN o o' ga gb gc)):=⟨JW hu o o' ha.h hb.h hc.h hm⟩
theorem yD (hu:Rm X){o:ir}{o':ir}{gc:GE}(ha:aF (DE fa X a ga))(hb:aF (DE fa X b gb))(hc:aF (DE fa X d gc))(hm:lastMarks [cW o,cW o'] [b,d]=false:=by exact rfl):aF (DT fa X (.Compare a [cW o,cW o'] [b,d] pos) (aL (lN o o' ga gb gc))):=⟨Ia hu o o' ha.h hb.h hc.h hm⟩
theorem ki (ha:aF (DE fa X a ga)):aF (DE fa X (.UnaryOp .USub a pos) (iS ga)):=⟨JQ ha.h⟩
theorem d4 {rest:List Expr}(ha:aF (DE fa X a ga))(hb:aF (DE fa X (.BoolOp .And (b::rest) pos) gb)):aF (DE fa X (.BoolOp .And (a::b::rest) pos) (eY ga gb)):=⟨JY ha.h hb.h⟩
theorem fH {op:PySem.BoolOp}(ha:aF (DE fa X a ga)):aF (DE fa X (.BoolOp op [a] pos) ga):=⟨JN ha.h⟩
theorem E8 (ha:aF (DE fa X a ga)):aF (DE fa X (.UnaryOp .Not a pos) (HN ga)):=⟨JO ha.h⟩
theorem mX {rest:List Expr}(ha:aF (DT fa X a ta))(hb:aF (DW fa X (.BoolOp .And (b::rest) pos) tb)):aF (DW fa X (.BoolOp .And (a::b::rest) pos) (je ta tb)):=⟨HZ ha.h hb.h⟩
theorem dO {rest:List Expr}(ha:aF (DT fa X a ta))(hb:aF (DW fa X (.BoolOp .Or (b::rest) pos) tb)):aF (DW fa X (.BoolOp .Or (a::b::rest) pos) (eK ta tb)):=⟨JI ha.h hb.h⟩
theorem qO (ha:aF (DT fa X a ta)):aF (DW fa X (.BoolOp .And [a] pos) ta):=⟨ED ha.h⟩
theorem dG (ha:aF (DT fa X a ta)):aF (DW fa X (.BoolOp .Or [a] pos) ta):=⟨HY ha.h⟩
theorem fi (h:aF (DW fa X a ta)):aF (DT fa X a ta):=⟨PW.pt h.h⟩
theorem bQ (ha:aF (DT fa X a ta)):aF (DT fa X (.UnaryOp .Not a pos) (bZ ta)):=⟨H8 ha.h⟩
theorem bD (ha:aF (DE fa X a ga))(he:∀whole,isTrue a X.env whole=(do let v <- whole;standAt a.pos;holding [v] (truthy v)):=by exact fun _=>rfl):aF (DT fa X a (aL ga)):=⟨B9 ha.h he⟩
theorem lS {c:Expr}(hc:aF (DT fa X c ta))(ha:aF (DE fa X a ga))(hb:aF (DE fa X b gb)):aF (DE fa X (.IfExp c a b pos) (gV ta ga gb)):=⟨JS hc.h ha.h hb.h⟩
theorem aT (ha:aF (DE fa X a ga))(hb:aF (DE fa X b gb))(hs:md b:=by exact fun _ _=>rfl):aF (DE fa X (.Subscript a b pos) (a8 ga gb)):=⟨JU ha.h hb.h hs⟩
theorem d3 {m:Bool}{hl:Bool}{hh:Bool}{lo hi:Option Expr}{gl gh:GE}{p2:Pos}(ha:aF (DE fa X a ga))(hlo:aF (DO fa X lo hl gl))(hhi:aF (DO fa X hi hh gh)):aF (DE fa X (.Subscript a (.Slice lo hi none p2) pos) (dH m hl hh ga gl gh)):=⟨JM m hl hh ha.h hlo.h hhi.h⟩
theorem c7 :aF (DO fa X none false (gC .non)):=⟨EI⟩
theorem cO (ha:aF (DE fa X a ga)):aF (DO fa X (some a) true ga):=⟨EH ha.h⟩
theorem aq :aF (DA fa X [] au):=⟨Im⟩
theorem ae (ha:aF (DE fa X a ga))(hs:aF (DA fa X es gs))(h0:notStar a=true:=by exact rfl):aF (DA fa X (a::es) (af ga gs)):=⟨EU ha.h hs.h (cI h0)⟩
theorem c6 {k:Nat}(hs:aF (DA fa X es gs)):aF (DE fa X (.Tuple es k pos) (cU gs)):=⟨JK hs.h⟩
theorem bJ {m:Bool}(hs:aF (DA fa X es gs)):aF (DE fa X (.List es pos) (bB m gs)):=⟨JR m hs.h⟩
theorem ay {f:Nat}{x:Str}{call:Call}(C:∀f,g9 fa X.prog X.w X.K X.mg X.base n f (call f))(hr:cy (n+4) X.A)(hm:∀ad,fa f=some ad->X.mg x=some (.ref ad))(hs:aF (DA fa X (a::es) gs))(hg:Gl X x:=by exact rfl)(hdb:(x==("__debug__":Str))=false:=by exact rfl)(he:notStar a=true:=by exact rfl)(hpl:es.all notStar=true:=by exact rfl):aF (DE fa X (.Call (.Name x p) (a::es) [] pos) (az f call gs)):=⟨Ip (C f) hr hg hm hs.h hdb (cI he) (dX hpl)⟩
theorem uf {i:Nat}{x:Str}{call:Call}(C:∀f,g9 fa X.prog X.w X.K X.mg X.base n f (call f))(hr:cy (n+4) X.A)(hs:aF (DA fa X (a::es) gs))(hN:X.N[i]?=some x:=by exact rfl)(hv:tu X.env.scope x:=by first|exact .inl rfl|exact .inr rfl|exact .inr (.inl rfl)|exact .inr (.inr rfl))(hd:(x==("__debug__":Str))=false:=by exact rfl)(hcd:(x==("__classdict__":Str))=false:=by exact rfl)(he:notStar a=true:=by exact rfl)(hpl:es.all notStar=true:=by exact rfl):aF (DE fa X (.Call (.Name x p) (a::es) [] pos) (nO i call gs)):=⟨EV C hr hN hv hs.h hd hcd (cI he) (dX hpl)⟩
theorem cj (hm:X.mg "len"=none)(hs:aF (DA fa X (a::es) gs))(hg:Gl X "len":=by exact rfl)(he:notStar a=true:=by exact rfl)(hpl:es.all notStar=true:=by exact rfl):aF (DE fa X (.Call (.Name "len" p) (a::es) [] pos) (bG .len gs)):=⟨C4 .len JE hg hm PySem.boot_len hs.h (by decide) (by decide) (cI he) (dX hpl)⟩
theorem ug (hm:X.mg "all"=none)(hs:aF (DA fa X (a::es) gs))(hc:X.calm=true:=by exact rfl)(hg:Gl X "all":=by exact rfl)(he:notStar a=true:=by exact rfl)(hpl:es.all notStar=true:=by exact rfl):aF (DE fa X (.Call (.Name "all" p) (a::es) [] pos) (bG .all gs)):=⟨C4 .all (JF hc) hg hm (by decide +kernel) hs.h (by decide) (by decide) (cI he) (dX hpl)⟩
theorem gk (hm:X.mg "tuple"=none)(hs:aF (DA fa X (a::es) gs))(hg:Gl X "tuple":=by exact rfl)(he:notStar a=true:=by exact rfl)(hpl:es.all notStar=true:=by exact rfl):aF (DE fa X (.Call (.Name "tuple" p) (a::es) [] pos) (bG .tuple gs)):=⟨Ah .tuple Es hg hm (by decide +kernel) hs.h (by decide) (by decide) (cI he) (dX hpl)⟩
theorem vW {m:Bool}(hm:X.mg "list"=none)(hs:aF (DA fa X (a::es) gs))(hg:Gl X "list":=by exact rfl)(he:notStar a=true:=by exact rfl)(hpl:es.all notStar=true:=by exact rfl):aF (DE fa X (.Call (.Name "list" p) (a::es) [] pos) (bG (.list m) gs)):=⟨Ah (.list m) (HS m) hg hm (by decide +kernel) hs.h (by decide) (by decide) (cI he) (dX hpl)⟩
theorem bO {t:Ty}{x:Str}{p1 p2:Pos}(ha:aF (DE fa X a ga))(hm:X.mg "isinstance"=none)(hmt:X.mg x=none)(hvt:bootBuiltins x=some (.type (tyName t)))(ht:∀c,t≠.own c:=by exact fun _ h=>nomatch h)(hg:Gl X "isinstance":=by exact rfl)(hgt:Gl X x:=by exact rfl)(hn:x≠"__name__":=by decide)(hdb:(x==("__debug__":Str))=false:=by exact rfl)(he:starEach [a,.Name x p1] X.env=(false,eval a X.env)::starEach [.Name x p1] X.env:=by exact rfl):aF (DE fa X (.Call (.Name "isinstance" p2) [a,.Name x p1] [] pos) (bY t ga)):=⟨Io t ht ha.h hg hm (by decide +kernel) hgt hmt hvt hn hdb he⟩
theorem aN {tg:Expr}{t:dv}(ha:aF (DE fa X a ga))(hg:aF (PG X tg (gT fa X.K t)))(hs:swapsWithSole [tg] a pos.line X.env=pure false:=by exact rfl)(hw:swappedStores [tg] a X.env=pure none:=by exact rfl)(h1:(assignEach [tg] X.env).map (·.2)=[assign tg X.env]:=by exact rfl):aF (DS fa X (.Assign [tg] a pos) (aU t ga)):=⟨Ih ha.h hg.h hs hw h1⟩
theorem kg {p2:Pos} (ha:aF (DE fa X a ga)) (hb:aF (DE fa X b gb)) (hd:aF (DE fa X d gd)) (h0:∀v,assign (.Subscript a b p2) X.env v=(do
 let ov <- holding [v] (eval a X.env)
 let iv <- holding [v,ov] (eval b X.env)
 standAt p2
 holding [v,ov,iv] (setItem ov iv v)
 release [v,ov,iv] []):=by exact fun _=>rfl) (hs:swapsWithSole [.Subscript a b p2] d pos.line X.env=pure false:=by exact rfl) (hw:swappedStores [.Subscript a b p2] d X.env=pure none:=by exact rfl) (h1:(assignEach [.Subscript a b p2] X.env).map (·.2)=[assign (.Subscript a b p2) X.env]:=by exact rfl):aF (DS fa X (.Assign [.Subscript a b p2] d pos) (jl ga gb gd)):=⟨Ic ha.h hb.h hd.h h0 hs hw h1⟩
theorem yA {apos cpos:Pos}(ha:aF (DE fa X a ga))(hd:aF (DE fa X d gd))(hbase:attributeBase a "append" X.env (eval a X.env)=eval a X.env:=by exact rfl)(hline:(apos.endLine==cpos.line)=true:=by exact rfl)(hs:starEach [d] X.env=[(false,eval d X.env)]:=by exact rfl)(hsw:swapsWith (.Call (.Attribute a "append" apos) [d] [] cpos) none pos.line X.env=pure false:=by exact rfl):aF (DS fa X (.Expr (.Call (.Attribute a "append" apos) [d] [] cpos) pos) (pB ga gd)):=⟨Ii ha.h hd.h hbase hline hs hsw⟩
theorem aC (ha:aF (DE fa X a ga)):aF (DS fa X (.Return (some a) pos) (aW ga)):=⟨Ib ha.h⟩
theorem aY {c:Expr}{st sf:List Stmt}{gt gf:GS}(hc:aF (DT fa X c ta))(ht:aF (g8 fa X st gt))(hf:aF (g8 fa X sf gf)):aF (DS fa X (.If c st sf pos) (bf ta gt gf)):=⟨Ie hc.h ht.h hf.h⟩
theorem gX {t:dv}{tg:Expr}{body:List Stmt}{gw:GW}{gb:GS}(hp:PassesOwn (model X.prog X.w) X.A X.env X.xe)(hi:aF (DI fa X tg a gw))(hg:aF (PG X tg (gT fa X.K t)))(hb:aF (g8 fa X body gb))(hc:X.calm=true:=by exact rfl)(hs:∀x,foldedSetIterable a X.env x=pure x:=by exact fun _=>rfl):aF (DS fa X (.For tg a body [] pos) (jm t gw gb)):=⟨Ig hp hc hi.h hg.h hb.h hs⟩
theorem ao :aF (g8 fa X [] aw):=⟨EG⟩
theorem ah {st:Stmt}{ss:List Stmt}{g g':GS}(h1:aF (DS fa X st g))(h2:aF (g8 fa X ss g')):aF (g8 fa X (st::ss) (ai g g')):=⟨Ca h1.h h2.h⟩
theorem Az {m:Bool}{p1 p2 pos2:Pos}(ha:aF (DE fa X a ga))(hml:X.mg "list"=none)(hm:X.mg "range"=none)(hc:X.calm=true:=by exact rfl)(hgl:Gl X "list":=by exact rfl)(hg:Gl X "range":=by exact rfl)(hs:starEach [a] X.env=[(false,eval a X.env)]:=by exact rfl)(hs2:starEach [.Call (.Name "range" p2) [a] [] pos2] X.env=[(false,eval (.Call (.Name "range" p2) [a] [] pos2) X.env)]:=by exact rfl):aF (DE fa X (.Call (.Name "list" p1) [.Call (.Name "range" p2) [a] [] pos2] [] pos) (nN m ga)):=⟨DH m hc ha.h hgl hml hg hm hs hs2⟩
theorem fB {m:Bool}(S:fA X own bn scope)(hi:aF (DI fa X tg iter gw))(pg:∀cl C fp s H,aF (PG (cg X own bn scope cl C fp s H) tg (gT fa X.K t)))(he:∀cl C fp s H,aF (DE fa (cg X own bn scope cl C fp s H) elt ge))(hc:X.calm=true:=by exact rfl)(hn:(slots t).all (· < own.length)=true:=by exact rfl)(hs:∀x,foldedSetIterable iter X.env x=pure x:=by exact fun _=>rfl):aF (DE fa X (.ListComp elt [⟨tg,iter,[],0⟩] scope pos) (cG m own.length t gw (cF ge))):=⟨Ag m (W:=[]) (body:=fun a env=>eval elt env >>= fun x=>call (.builtin "list.append") [.ref a,x] >>= fun _=>pure ()) S hc hi.h ⟨(fun cl C fp s H=>(pg cl C fp s H).h),fun cl C fp s H a=>nS ((fun cl C fp s H=>(he cl C fp s H).h) cl C fp s H)⟩ (fun it a env=>ui elt tg iter [] scope pos (.ref it) (.ref a) env) (fun i h=>nomatch h) (by simpa using kz hn) hs⟩
theorem mW {m:Bool}(S:fA X own bn scope)(hi:aF (DI fa X tg iter gw))(pg:∀cl C fp s H,aF (PG (cg X own bn scope cl C fp s H) tg (gT fa X.K t)))(ht:∀cl C fp s H,aF (DT fa (cg X own bn scope cl C fp s H) c gc))(he:∀cl C fp s H,aF (DE fa (cg X own bn scope cl C fp s H) elt ge))(hc:X.calm=true:=by exact rfl)(hn:(slots t).all (· < own.length)=true:=by exact rfl)(hs:∀x,foldedSetIterable iter X.env x=pure x:=by exact fun _=>rfl):aF (DE fa X (.ListComp elt [⟨tg,iter,[c],0⟩] scope pos) (cG m own.length t gw (oU gc (cF ge)))):=⟨Ag m (W:=[]) (body:=fun a env=>isTrue c env (eval c env) >>= fun ok=>if ok=true then (eval elt env >>= fun x=>call (.builtin "list.append") [.ref a,x] >>= fun _=>pure ()) else pure ()) S hc hi.h ⟨(fun cl C fp s H=>(pg cl C fp s H).h),fun cl C fp s H a=>C3 ((fun cl C fp s H=>(ht cl C fp s H).h) cl C fp s H) (nS ((fun cl C fp s H=>(he cl C fp s H).h) cl C fp s H))⟩ (fun it a env=>turn_if elt tg iter c scope pos (.ref it) (.ref a) env) (fun i h=>nomatch h) (by simpa using kz hn) hs⟩
theorem Ay {m:Bool}(S:fA X own bn scope)(hi:aF (DI fa X tg iter gw))(pg:∀cl C fp s H,aF (PG (cg X own bn scope cl C fp s H) tg (gT fa X.K t)))(he:∀cl C fp s H,aF (DE fa (cg X own bn scope cl C fp s H) elt ge))(hN:X.N.Nodup)(hc:X.calm=true:=by exact rfl)(hn:(slots t).all (· < own.length)=true:=by exact rfl)(hs:∀x,foldedSetIterable iter X.env x=pure x:=by exact fun _=>rfl)(hy:X.N[i]?=some y:=by exact rfl)(hl:X.env.scope.names.lookup y=some .local:=by exact rfl)(hsw:swapsWith (.ListComp elt [⟨tg,iter,[],0⟩] scope pos) (some (.Name y py)) spos.line X.env=pure true:=by exact rfl):aF (DS fa X (.Assign [.Name y py] (.ListComp elt [⟨tg,iter,[],0⟩] scope pos) spos) (aU (.one i) (cG m own.length t gw (cF ge)))):=⟨uJ m (W:=[]) (body:=fun a env=>eval elt env >>= fun x=>call (.builtin "list.append") [.ref a,x] >>= fun _=>pure ()) S hc hi.h ⟨(fun cl C fp s H=>(pg cl C fp s H).h),fun cl C fp s H a=>nS ((fun cl C fp s H=>(he cl C fp s H).h) cl C fp s H)⟩ (fun it a env=>ui elt tg iter [] scope pos (.ref it) (.ref a) env) (fun i h=>nomatch h) (by simpa using kz hn) hs hN hy hl hsw⟩
theorem yz {m:Bool}(S:fA X own bn scope)(hi:aF (DI fa X tg iter gw))(pg:∀cl C fp s H,aF (PG (cg X own bn scope cl C fp s H) tg (gT fa X.K t)))(ht:∀cl C fp s H,aF (DT fa (cg X own bn scope cl C fp s H) c gc))(he:∀cl C fp s H,aF (DE fa (cg X own bn scope cl C fp s H) elt ge))(hN:X.N.Nodup)(hc:X.calm=true:=by exact rfl)(hn:(slots t).all (· < own.length)=true:=by exact rfl)(hs:∀x,foldedSetIterable iter X.env x=pure x:=by exact fun _=>rfl)(hy:X.N[i]?=some y:=by exact rfl)(hl:X.env.scope.names.lookup y=some .local:=by exact rfl)(hsw:swapsWith (.ListComp elt [⟨tg,iter,[c],0⟩] scope pos) (some (.Name y py)) spos.line X.env=pure true:=by exact rfl):aF (DS fa X (.Assign [.Name y py] (.ListComp elt [⟨tg,iter,[c],0⟩] scope pos) spos) (aU (.one i) (cG m own.length t gw (oU gc (cF ge))))):=⟨uJ m (W:=[]) (body:=fun a env=>isTrue c env (eval c env) >>= fun ok=>if ok=true then (eval elt env >>= fun x=>call (.builtin "list.append") [.ref a,x] >>= fun _=>pure ()) else pure ()) S hc hi.h ⟨(fun cl C fp s H=>(pg cl C fp s H).h),fun cl C fp s H a=>C3 ((fun cl C fp s H=>(ht cl C fp s H).h) cl C fp s H) (nS ((fun cl C fp s H=>(he cl C fp s H).h) cl C fp s H))⟩ (fun it a env=>turn_if elt tg iter c scope pos (.ref it) (.ref a) env) (fun i h=>nomatch h) (by simpa using kz hn) hs hN hy hl hsw⟩
theorem Ax {m:Bool}(S:fA X own bn scope)(hi:aF (DI fa X tg iter gw))(pg:∀cl C fp s H,aF (PG (cg X own bn scope cl C fp s H) tg (gT fa X.K t)))(hi2:∀cl C fp s H,aF (DI fa (cg X own bn scope cl C fp s H) t2 i2 gw2))(pg2:∀cl C fp s H,aF (PG (cg X own bn scope cl C fp s H) t2 (gT fa X.K u)))(he:∀cl C fp s H,aF (DE fa (cg X own bn scope cl C fp s H) elt ge))(hs2:∀cl C fp s H,∀x,foldedSetIterable i2 (cg X own bn scope cl C fp s H).env x=pure x)(hN:X.N.Nodup)(hc:X.calm=true:=by exact rfl)(hn:(slots t++slots u).all (· < own.length)=true:=by exact rfl)(hW:(slots u).all (fun i=>!(slots t).contains i)=true:=by exact rfl)(hs:∀x,foldedSetIterable iter X.env x=pure x:=by exact fun _=>rfl)(hy:X.N[i]?=some y:=by exact rfl)(hl:X.env.scope.names.lookup y=some .local:=by exact rfl)(hsw:swapsWith (.ListComp elt [⟨tg,iter,[],0⟩,⟨t2,i2,[],0⟩] scope pos) (some (.Name y py)) spos.line X.env=pure true:=by exact rfl):aF (DS fa X (.Assign [.Name y py] (.ListComp elt [⟨tg,iter,[],0⟩,⟨t2,i2,[],0⟩] scope pos) spos) (aU (.one i) (cG m own.length t gw (rP u gw2 (cF ge))))):=⟨Dy m S hc hi.h (fun cl C fp s H=>(pg cl C fp s H).h) (fun cl C fp s H=>(hi2 cl C fp s H).h) (fun cl C fp s H=>(pg2 cl C fp s H).h) (fun cl C fp s H=>(he cl C fp s H).h) hn hW hs hs2 hN hy hl hsw⟩
theorem ia {x:Str}{i:Int}(hm:∃t,X.mg x=some (.int i t))(hg:Gl X x:=by exact rfl)(hd:(x==("__debug__":Str))=false:=by exact rfl):aF (DE fa X (.Name x pos) (gC (.int i))):=⟨let ⟨_,h⟩:=hm;FG hg h hd⟩
theorem ue {x:Str}{b:Expr}{gb:GE}{p:Pos}{fs:List (Str×Nat)}(h:∃ad kvs,X.mg x=some (.ref ad)/\jF X.K X.w.params ad kvs/\fG fa kvs fs)(hb:aF (DE fa X b gb))(hg:Gl X x:=by exact rfl)(hdb:(x==("__debug__":Str))=false:=by exact rfl)(hs:md b:=by exact fun _ _=>rfl):aF (DE fa X (.Subscript (.Name x p) b pos) (oz fs gb)):=⟨let ⟨_,_,h1,h2,h3⟩:=h;FH h2 h3 hg h1 hdb hb.h hs⟩
theorem AD {x:Str}{a:Expr}{ga:GE}{p:Pos}{fs:List (Str×Nat)}(h:∃ad kvs,X.mg x=some (.ref ad)/\jF X.K X.w.params ad kvs/\fG fa kvs fs)(ha:aF (DE fa X a ga))(hg:Gl X x:=by exact rfl)(hdb:(x==("__debug__":Str))=false:=by exact rfl)(hmk:behindInMarks .NotIn (.Name x p)=false:=by exact rfl):aF (DT fa X (.Compare a [.NotIn] [.Name x p] pos) (aL (oy fs ga))):=⟨let ⟨_,_,h1,h2,h3⟩:=h;FR h2 h3 hg h1 hdb ha.h hmk⟩
theorem yB {m:Bool}{pc pu:Pos}{k:Nat}(ha:aF (DE fa X a ga)):aF (DE fa X (.Subscript a (.Slice none none (some (.UnaryOp .USub (.Constant (.int 1) k pc) pu)) p2) pos) (mJ m ga)):=⟨Jc m ha.h⟩
theorem vU {hl:Bool}{hh:Bool}{lo hi:Option Expr}{gl gh:GE}(ha:aF (DE fa X a ga))(hlo:aF (DO fa X lo hl gl))(hhi:aF (DO fa X hi hh gh)):aF (DE fa X (.Subscript a (.Slice lo hi none p2) pos) (ow hl hh ga gl gh)):=⟨FD hl hh ha.h hlo.h hhi.h⟩
theorem AG (ha:aF (DE fa X a ga)):aF (DI fa X tg a (qE ga)):=⟨EL ha.h⟩
theorem jb {f:Nat}{x:Str}{call:Call}(C:∀f,g9 fa X.prog X.w X.K X.mg X.base n f (call f))(hr:cy (n+4) X.A)(hm:∀ad,fa f=some ad->X.mg x=some (.ref ad))(hs:aF (DA fa X (a::es) gs))(hex:X.ex=[]:=by exact rfl)(hg:Gl X x:=by exact rfl)(hdb:(x==("__debug__":Str))=false:=by exact rfl)(he:notStar a=true:=by exact rfl)(hpl:es.all notStar=true:=by exact rfl):aF (DX fa X (.Call (.Name x p) (a::es) [] pos) (fM f call gs)):=⟨x_call f C hr hex hg hm hs.h hdb he hpl⟩
theorem mV (ha:aF (DX fa X a ga))(hs:swapsWith a none pos.line X.env=pure false:=by exact rfl):aF (DS fa X (.Expr a pos) (lM ga)):=⟨I9 ha.h hs⟩
theorem vT {tg:Expr}{t:dv}(ha:aF (DX fa X a ga))(hg:aF (PG X tg (gT fa X.K t)))(hs:swapsWithSole [tg] a pos.line X.env=pure false:=by exact rfl)(hw:swappedStores [tg] a X.env=pure none:=by exact rfl)(h1:(assignEach [tg] X.env).map (·.2)=[assign tg X.env]:=by exact rfl):aF (DS fa X (.Assign [tg] a pos) (mC t ga)):=⟨Fz ha.h hg.h hs hw h1⟩
theorem ud {c:Nat}{x:Str}{np cpos:Pos}(hx:∃C,X.mg x=some (.ref C)/\fa (du c)=some C/\PySem.W.excIn X.K C mT "ValueError.__new__"=true)(hs:aF (DA fa X (a::es) gs))(hex:X.ex=[]:=by exact rfl)(hg:Gl X x:=by exact rfl)(hc:X.calm=true:=by exact rfl)(hdb:(x==("__debug__":Str))=false:=by exact rfl)(he:notStar a=true:=by exact rfl)(hpl:es.all notStar=true:=by exact rfl):aF (DS fa X (.Raise (some (.Call (.Name x np) (a::es) [] cpos)) none pos) (kI c gs)):=⟨Dx c hx hex hg hc hs.h hdb he hpl⟩
theorem dm {k:Nat}(hc:lG fa X.K)(hx:∃D,X.mg x=some (.ref D)/\fa (du k)=some D)(ha:aF (DE fa X a ga))(hm:X.mg "isinstance"=none)(hg:Gl X "isinstance":=by exact rfl)(hgt:Gl X x:=by exact rfl)(hdb:(x==("__debug__":Str))=false:=by exact rfl)(he:starEach [a,.Name x p1] X.env=(false,eval a X.env)::starEach [.Name x p1] X.env:=by exact rfl):aF (DE fa X (.Call (.Name "isinstance" p2) [a,.Name x p1] [] pos) (cS (some k) ga)):=⟨DJ k hc hx ha.h hg hm hgt hdb he⟩
theorem AB (hc:lG fa X.K)(hx:∃D,X.mg x=some (.ref D)/\fa 999=some D)(ha:aF (DE fa X a ga))(hm:X.mg "isinstance"=none)(hg:Gl X "isinstance":=by exact rfl)(hgt:Gl X x:=by exact rfl)(hdb:(x==("__debug__":Str))=false:=by exact rfl)(he:starEach [a,.Name x p1] X.env=(false,eval a X.env)::starEach [.Name x p1] X.env:=by exact rfl):aF (DE fa X (.Call (.Name "isinstance" p2) [a,.Name x p1] [] pos) (cS none ga)):=⟨DK hc hx ha.h hg hm hgt hdb he⟩
theorem AA (hc:lG fa X.K)(ha:aF (DE fa X a ga))(hm:X.mg "isinstance"=none)(hmt:X.mg "ValueError"=none)(hg:Gl X "isinstance":=by exact rfl)(hgt:Gl X "ValueError":=by exact rfl)(he:starEach [a,.Name "ValueError" p1] X.env=(false,eval a X.env)::starEach [.Name "ValueError" p1] X.env:=by exact rfl):aF (DE fa X (.Call (.Name "isinstance" p2) [a,.Name "ValueError" p1] [] pos) (cS none ga)):=⟨cn (jn (Eu (fa:=fa) hc) hg hm (by decide +kernel) (cp ha.h (cp (wq hgt hmt (by decide +kernel) (v:=.ty "ValueError") rfl) eh (by rfl)) he) (by decide) (by decide) he (by rfl)) fun σ H Q h=>rO h⟩
theorem E7 (hc:lG fa X.K)(hx:∃D,X.mg x=some (.ref D)/\fa 999=some D)(hN:X.N.Nodup)(hb:∀pn E,aF (g8 fa (qA X pn E) body gB))(hh:∀v E,aF (g8 fa (tZ X v E) (b0::suite) gH))(hex:X.ex=[]:=by exact rfl)(hst:X.stack=X.env::X.outer:=by exact rfl)(hfr:X.env.frame=some X.env.locals:=by exact rfl)(hi:X.N[i]?=some nm:=by exact rfl)(hl:X.env.scope.names.lookup nm=some .local:=by exact rfl)(hg:Gl X x:=by exact rfl)(hdb:(x==("__debug__":Str))=false:=by exact rfl):aF (DS fa X (.Try body [.ExceptHandler (some (.Name x np)) (some nm) (b0::suite) hp] [] [] pos) (uK gB i gH)):=⟨I8 hc hx hex hst hfr hN hi hl hg hdb (fun pn E=>(hb pn E).h) (fun v E=>(hh v E).h)⟩
theorem Dg (ha:aF (DE fa X a ga))(hbase:attributeBase a "count" X.env (eval a X.env)=eval a X.env:=by exact rfl)(hline:(apos.endLine==cpos.line)=true:=by exact rfl):aF (DE fa X (.Call (.Attribute a "count" apos) [.Constant (.bool true) j kp] [] cpos) (yg ga)):=⟨FI ha.h hbase hline⟩
theorem De (ha:aF (DE fa X a ga))(hbase:attributeBase a "index" X.env (eval a X.env)=eval a X.env:=by exact rfl)(hline:(apos.endLine==cpos.line)=true:=by exact rfl):aF (DE fa X (.Call (.Attribute a "index" apos) [.Constant (.bool true) j kp] [] cpos) (yf ga)):=⟨FE ha.h hbase hline⟩
theorem sj {c:Nat}(J:mh fa X.prog X.w X.K X.mg X.base c x)(hr:cy 2 X.A)(ha:aF (DE fa X a ga))(hex:X.ex=[]:=by exact rfl)(hg:Gl X x:=by exact rfl)(hc:X.calm=true:=by exact rfl)(hdb:(x==("__debug__":Str))=false:=by exact rfl)(he:notStar a=true:=by exact rfl):aF (DS fa X (.Raise (some (.Call (.Name x np) [a] [] cpos)) none pos) (jk c ga)):=⟨Ba c J hr hex hg hc ha.h hdb he⟩
theorem pe {f:Str}(hc:lG fa X.K)(hf:Au fa X.K f)(ha:aF (DE fa X a ga))(hb:attributeBase a f X.env (eval a X.env)=eval a X.env:=by exact rfl):aF (DE fa X (.Attribute a f pos) (k9 f ga)):=⟨DL f hc hf ha.h hb⟩
theorem IL {fa:Fa}{X:Cx}{a:Expr}{ga:GE}{pos p1 p2 p3:Pos}{j j2:Nat}{z y:Str}(ha:aF (DE fa X a ga)):aF (DE fa X (.JoinedStr [.Constant (.str z) j p1,.FormattedValue a (-1) none p2,.Constant (.str y) j2 p3] pos) (HQ z y ga)):=⟨K0 ha.h⟩
theorem vV (hr:cy (n+4) X.A)(hm:X.mg "repr"=none)(hs:aF (DA fa X (a::es) gs))(hg:Gl X "repr":=by exact rfl)(he:notStar a=true:=by exact rfl)(hpl:es.all notStar=true:=by exact rfl):aF (DE fa X (.Call (.Name "repr" p) (a::es) [] pos) (j4 gs)):=⟨cn (jn (HR (fa:=fa) hr) hg hm (by decide +kernel) hs.h (by decide) (by decide) (cI he) (dX hpl)) fun σ H Q ⟨μ,Z,M,hE,hM,h⟩=>ur hE hM h fun ds M1 vs H1 μ1 x1 hE1 hM1 r1 h1=>⟨μ1,M1,ds,hM1,r1,lV h1 x1⟩⟩
theorem unbox {st:List Stmt}{g:GS}(h:aF (g8 fa X st g)):g8 fa X st g:=h.h
end
end LD
namespace LD
open PySem
abbrev gI (n:Int):GE:=gC (.int n)
abbrev gS (x:Str):GE:=gC (.str x)
abbrev gN:GE:=gC .non
abbrev zY:GE:=gC (.bl true)
abbrev wH:GE:=gC (.bl false)
abbrev rF:GS:=ai (aW wH) aw
end LD
namespace LD
open PySem
def dA:List (Str×Nat):=[("turn",7),("join",8),("move",9),("put",10)]
def dI:List (Str×Nat):=[("turn",20),("join",21),("move",22),("put",23)]
def fx (c:Call):GS:=ai (bf (eK (aL (bY .bool (ag 0))) (bZ (aL (bY .int (ag 0))))) rF aw) (ai (aW (lN .le .le (ag 1) (ag 0) (ag 2))) aw)
def jO (c:Call):GS:=ai (aW (az 0 c (af (ag 1) (af (gI 0) (af (aH false .sub (ag 0) (gI 1)) au))))) aw
def iX (c:Call):GS:=ai (aW (az 0 c (af (ag 1) (af (gI 0) (af (aH false .sub (ag 0) (gI 1)) au))))) aw
def jP (c:Call):GS:=ai (aW (az 0 c (af (ag 0) (af (gI 1) (af (gI 3) au))))) aw
def fN (c:Call):GS:=ai (aW (eY (bY .tuple (ag 1)) (a7 .eq (bG .len (af (ag 1) au)) (ag 0)))) aw
def iW (c:Call):GS:=ai (aW (eY (az 4 c (af (ag 0) (af (ag 1) au))) (bG .all (af (cG false 1 (.one 0) (iR (ag 1)) (cF (az 1 c (af (ag 1) (af (ag 0) au))))) au)))) aw
def d5 (c:Call):GS:=ai (aW (eY (az 4 c (af (ag 0) (af (ag 1) au))) (bG .all (af (cG false 1 (.one 0) (iR (ag 1)) (cF (az 5 c (af (ag 1) (af (ag 0) au))))) au)))) aw
def gx (c:Call):GS:=ai (bf (aL (a7 .ne (bG .len (af (ag 2) au)) (gI 3))) rF aw) (ai (aU (.tup [3,4,5]) (ag 2)) (ai (aW (eY (az 2 c (af (ag 1) (af (ag 3) au))) (eY (az 5 c (af (ag 0) (af (ag 4) au))) (az 3 c (af (ag 5) au))))) aw))
def gz (c:Call):GS:=ai (bf (aL (a7 .ne (bG .len (af (ag 2) au)) (gI 4))) rF aw) (ai (aU (.tup [3,4,5,6]) (ag 2)) (ai (bf (eK (bZ (aL (az 2 c (af (ag 1) (af (ag 3) au))))) (bZ (aL (az 2 c (af (ag 1) (af (ag 4) au)))))) rF aw) (ai (aW (eY (az 6 c (af (ag 0) (af (ag 5) au))) (az 3 c (af (ag 6) au)))) aw)))
def gy (c:Call):GS:=ai (bf (aL (a7 .ne (bG .len (af (ag 2) au)) (gI 3))) rF aw) (ai (aU (.tup [3,4,5]) (ag 2)) (ai (aW (eY (az 2 c (af (ag 1) (af (ag 3) au))) (eY (az 2 c (af (ag 1) (af (ag 4) au))) (az 3 c (af (ag 5) au))))) aw))
def ik (c:Call):GS:=ai (bf (aL (a7 .ne (bG .len (af (ag 2) au)) (gI 3))) rF aw) (ai (aU (.tup [3,4,5]) (ag 2)) (ai (aW (eY (az 2 c (af (ag 1) (af (ag 3) au))) (eY (az 1 c (af (ag 0) (af (ag 4) au))) (az 3 c (af (ag 5) au))))) aw))
def gA (c:Call):GS:=ai (bf (eK (bZ (aL (bY .tuple (ag 2)))) (bZ (aL (ag 2)))) rF aw) (ai (aU (.one 3) (a8 (ag 2) (gI 0))) (ai (bf (eK (bZ (aL (bY .str (ag 3)))) (aL (oy dA (ag 3)))) rF aw) (ai (aU (.one 4) (oz dA (ag 3))) (ai (aW (nO 4 c (af (ag 0) (af (ag 1) (af (dH false true false (ag 2) (gI 1) gN) au))))) aw))))
def fw (c:Call):GS:=ai (bf (bZ (aL (az 4 c (af (gI 3) (af (ag 0) au))))) rF aw) (ai (aU (.tup [1,2,3]) (ag 0)) (ai (bf (eK (bZ (aL (az 0 c (af (ag 1) (af (gI 2) (af (gI 4) au)))))) (bZ (aL (az 0 c (af (ag 2) (af (gI 1) (af (gI 2) au))))))) rF aw) (ai (bf (eK (bZ (aL (bY .tuple (ag 3)))) (bZ (aL (lN .le .le (gI 1) (bG .len (af (ag 3) au)) (gI 6))))) rF aw) (ai (aW (bG .all (af (cG false 1 (.one 0) (iR (ag 3)) (cF (az 11 c (af (ag 2) (af (ag 3) (af (ag 0) au)))))) au))) aw))))
def c9 (c:Call):GS:=ai (bf (bZ (aL (az 12 c (af (ag 0) au)))) (ai (kI 3 (af (gS "this is no machine") au)) aw) aw) aw
def dN (c:Call):GS:=ai (lM (fM 13 c (af (ag 0) au))) (ai (aU (.tup [1,2,3]) (ag 0)) (ai (aU (.one 4) (bB false (af (cU au) au))) (ai (jm (.one 5) (gj (ag 2)) (ai (aU (.one 4) (cG false 2 (.one 0) (iR (ag 4)) (rP (.one 1) (gj (ag 3)) (cF (aH false .add (ag 0) (cU (af (ag 1) au))))))) aw)) (ai (aW (ag 4)) aw))))
def eC (c:Call):GS:=ai (aW (az 0 c (af (ag 1) (af (gI 0) (af (aH false .sub (bG .len (af (a8 (ag 0) (gI 2)) au)) (gI 1)) au))))) aw
def cH (c:Call):GS:=ai (bf (bZ (aL (bY .list (ag 1)))) (ai (jk 0 (gI 0)) aw) aw) (ai (jm (.tup [2,3]) (mK (ag 1)) (ai (bf (bZ (aL (az 16 c (af (ag 0) (af (ag 3) au))))) (ai (jk 0 (ag 2)) aw) aw) aw)) aw)
def dD (c:Call):GS:=ai (lM (fM 13 c (af (ag 0) au))) (ai (lM (fM 17 c (af (ag 0) (af (ag 1) au)))) (ai (bf (aL (a7 .gt (bG .len (af (ag 1) au)) (gI 40))) (ai (kI 4 (af (HQ "a row has at most " " deeds" (gI 40)) au)) aw) aw) aw))
def mP (c:Call):GS:=ai (aU (.tup [2,3,4,5]) (ag 0)) (ai (aW (a8 (ag 4) (a8 (ag 1) (ag 3)))) aw)
def mR (c:Call):GS:=ai (aU (.tup [2,3,4,5,6]) (ag 0)) (ai (aW (a8 (a8 (ag 5) (a8 (ag 1) (ag 3))) (a8 (ag 1) (ag 4)))) aw)
def oM (c:Call):GS:=ai (aU (.tup [2,3,4,5]) (ag 0)) (ai (aW (a8 (ag 1) (ag 4))) aw)
def mQ (c:Call):GS:=ai (aU (.tup [2,3,4,5]) (ag 0)) (ai (aW (ag 4)) aw)
def qK (c:Call):GS:=ai (aU (.one 2) (oz dI (a8 (ag 0) (gI 0)))) (ai (aU (.one 3) (a8 (ag 0) (gI 1))) (ai (aW (aH false .add (aH false .add (dH false false true (ag 1) gN (ag 3)) (cU (af (nO 2 c (af (ag 0) (af (ag 1) au))) au))) (dH false true false (ag 1) (aH false .add (ag 3) (gI 1)) gN))) aw))
def gM (c:Call):GS:=ai (aU (.one 3) (bB true (af (ag 2) au))) (ai (jm (.one 4) (iR (ag 1)) (ai (pB (ag 3) (az 24 c (af (a8 (a8 (ag 0) (gI 2)) (ag 4)) (af (a8 (ag 3) (iS (gI 1))) au)))) aw)) (ai (aW (ag 3)) aw))
def dE (c:Call):GS:=ai (lM (fM 18 c (af (ag 0) (af (ag 1) au)))) (ai (aW (az 46 c (af (ag 0) (af (ag 1) au)))) aw)
def hV (c:Call):GS:=ai (bf (aL (a7 .ge (ag 0) (aH false .pow (gI 10) (gI 18)))) (ai (aW (ag 0)) aw) aw) (ai (aU (.one 2) (bB false (af (gI 2147483629) (af (gI 2147483587) (af (gI 2147483579) (af (gI 2147483563) (af (gI 2147483549) (af (gI 2147483543) (af (gI 2147483497) (af (gI 2147483489) au)))))))))) (ai (aU (.one 2) (aH false .add (ag 2) (bB false (af (gI 2147483477) (af (gI 2147483423) (af (gI 2147483399) (af (gI 2147483353) (af (gI 2147483323) au)))))))) (ai (aU (.one 3) (aH false .mod (aH false .pow (aH false .add (aH false .add (aH false .mul (aH false .mod (ag 0) (gI 1000000007)) (aH false .add (aH false .mul (gI 2) (ag 1)) (gI 69069))) (aH false .mul (ag 1) (gI 40503))) (gI 977)) (gI 3)) (a8 (ag 2) (aH false .mod (ag 1) (gI 13))))) (ai (aU (.one 4) (aH false .mod (aH false .pow (aH false .add (aH false .add (aH false .mul (ag 3) (aH false .add (ag 1) (gI 3))) (aH false .mod (ag 0) (gI 65537))) (gI 5)) (gI 5)) (a8 (ag 2) (aH false .mod (aH false .add (ag 1) (gI 5)) (gI 13))))) (ai (aU (.one 5) (aH false .mod (aH false .pow (aH false .add (aH false .add (ag 4) (aH false .mod (ag 3) (gI 1009))) (ag 1)) (gI 3)) (a8 (ag 2) (aH false .mod (aH false .add (ag 1) (gI 7)) (gI 13))))) (ai (aW (aH false .add (aH false .mul (aH false .add (aH false .mul (ag 3) (gI 2147483647)) (ag 4)) (gI 2147483647)) (ag 5))) aw))))))
def jD (c:Call):GS:=ai (aU (.one 1) (bG (.list true) (af (dH false false true (ag 0) gN (gI 12)) au))) (ai (jm (.tup [2,3]) (mK (dH false true true (ag 0) (gI 12) (gI 63))) (ai (jl (ag 1) (aH false .mod (ag 2) (gI 12)) (aH false .add (a8 (ag 1) (aH false .mod (ag 2) (gI 12))) (ag 3))) aw)) (ai (aW (bB true (af (ag 1) (af (gI 0) (af (gI 0) au))))) aw))
def jE (c:Call):GS:=ai (jl (ag 0) (gI 2) (gI 0)) (ai (aW (ag 0)) aw)
def lQ (c:Call):GS:=ai (bf (aL (a7 .lt (a8 (ag 0) (gI 2)) (ag 1))) (ai (aU (.one 2) (a8 (ag 0) (gI 1))) (ai (aU (.one 3) (gI 0)) (ai (bf (aL (a7 .lt (ag 2) (bG .len (af (a8 (ag 0) (gI 0)) au)))) (ai (aU (.one 3) (a8 (a8 (ag 0) (gI 0)) (ag 2))) aw) (ai (bf (aL (a7 .gt (bG .len (af (a8 (ag 0) (gI 0)) au)) (gI 0))) (ai (aU (.one 3) (aH false .mod (a8 (a8 (ag 0) (gI 0)) (aH false .mod (aH false .add (aH false .mul (ag 2) (gI 5)) (gI 3)) (bG .len (af (a8 (ag 0) (gI 0)) au)))) (aH false .add (aH false .pow (gI 10) (gI 17)) (ag 2)))) aw) aw) aw)) (ai (jl (ag 0) (gI 1) (aH false .add (ag 2) (gI 1))) (ai (jl (ag 0) (gI 2) (az 28 c (af (ag 3) (af (ag 2) au)))) aw))))) aw) (ai (aU (.one 4) (aH false .mod (a8 (ag 0) (gI 2)) (ag 1))) (ai (jl (ag 0) (gI 2) (aH false .fdiv (a8 (ag 0) (gI 2)) (ag 1))) (ai (aW (ag 4)) aw)))
def iY (c:Call):GS:=ai (aU (.one 2) (az 31 c (af (ag 0) (af (gI 6) au)))) (ai (aU (.one 3) (az 31 c (af (ag 0) (af (ag 1) au)))) (ai (aU (.one 4) (az 31 c (af (ag 0) (af (ag 1) au)))) (ai (bf (aL (a7 .lt (ag 2) (gI 2))) (ai (aW (bG .tuple (af (cG false 1 (.one 0) (gj (ag 1)) (cF (az 31 c (af (ag 1) (af (ag 2) au))))) au))) aw) aw) (ai (bf (aL (a7 .eq (ag 2) (gI 2))) (ai (aW (bG .tuple (af (cG false 1 (.one 0) (gj (ag 1)) (cF (aH false .mod (aH false .add (aH false .add (ag 0) (gI 1)) (ag 4)) (ag 2)))) au))) aw) aw) (ai (bf (aL (a7 .eq (ag 2) (gI 3))) (ai (aW (bG .tuple (af (cG false 1 (.one 0) (gj (ag 1)) (cF (gV (aL (a7 .eq (ag 0) (ag 4))) (ag 5) (ag 0)))) au))) aw) aw) (ai (bf (aL (a7 .eq (ag 2) (gI 4))) (ai (aW (aH false .mul (cU (af (ag 3) au)) (ag 1))) aw) aw) (ai (aU (.one 5) (nN true (ag 1))) (ai (jl (ag 5) (ag 3) (ag 4)) (ai (jl (ag 5) (ag 4) (ag 3)) (ai (aW (bG .tuple (af (ag 5) au))) aw))))))))))
def gZ (c:Call):GS:=ai (aU (.one 3) (az 31 c (af (ag 0) (af (gI 8) au)))) (ai (aU (.one 4) (aH false .add (gI 1) (az 31 c (af (ag 0) (af (gI 3) au))))) (ai (aU (.one 5) (az 31 c (af (ag 0) (af (ag 2) au)))) (ai (aU (.one 6) (az 31 c (af (ag 0) (af (ag 2) au)))) (ai (bf (aL (a7 .lt (ag 3) (gI 3))) (ai (aW (cU (af (gS "turn") (af (ag 5) (af (az 32 c (af (ag 0) (af (ag 1) au))) (af (ag 4) au)))))) aw) aw) (ai (bf (aL (a7 .lt (ag 3) (gI 5))) (ai (aW (cU (af (gS "move") (af (ag 5) (af (gV (aL (a7 .eq (ag 3) (gI 3))) (aH false .mod (aH false .add (ag 5) (gI 1)) (ag 2)) (ag 6)) (af (ag 4) au)))))) aw) aw) (ai (bf (aL (a7 .eq (ag 3) (gI 5))) (ai (aW (cU (af (gS "put") (af (ag 5) (af (az 31 c (af (ag 0) (af (ag 1) au))) (af (ag 4) au)))))) aw) aw) (ai (aW (cU (af (gS "join") (af (ag 5) (af (ag 6) (af (bG .tuple (af (cG false 1 (.one 0) (gj (ag 1)) (cF (az 32 c (af (ag 1) (af (ag 2) au))))) au)) (af (ag 4) au))))))) aw)))))))
def fy (c:Call):GS:=ai (aU (.one 1) (aH false .add (gI 2) (az 31 c (af (ag 0) (af (aH false .sub (ag 1) (gI 1)) au))))) (ai (aU (.one 2) (aH false .add (gI 1) (az 31 c (af (ag 0) (af (ag 2) au))))) (ai (aU (.one 4) (bB true au)) (ai (jm (.one 5) (gj (aH false .add (gI 1) (az 31 c (af (ag 0) (af (ag 3) au))))) (ai (aU (.one 6) (az 31 c (af (ag 0) (af (gI 5) au)))) (ai (aU (.one 7) (az 33 c (af (ag 0) (af (ag 1) (af (ag 2) au))))) (ai (bf (je (aL (a7 .eq (ag 6) (gI 0))) (aL (a7 .ne (ag 4) (bB false au)))) (ai (aU (.one 7) (aH false .add (dH false false true (a8 (ag 4) (az 31 c (af (ag 0) (af (bG .len (af (ag 4) au)) au)))) gN (iS (gI 1))) (cU (af (a8 (ag 7) (iS (gI 1))) au)))) aw) aw) (ai (pB (ag 4) (ag 7)) aw))))) (ai (aW (cU (af (ag 1) (af (ag 2) (af (bG .tuple (af (ag 4) au)) au))))) aw))))
def iZ (c:Call):GS:=ai (aU (.one 3) (az 31 c (af (ag 0) (af (gI 4) au)))) (ai (aU (.one 4) (gV (aL (a7 .eq (ag 3) (gI 0))) (ag 2) (az 31 c (af (ag 0) (af (aH false .add (ag 2) (gI 1)) au))))) (ai (aU (.one 5) (cG false 1 (.one 0) (gj (ag 4)) (cF (az 31 c (af (ag 1) (af (bG .len (af (a8 (ag 2) (gI 2)) au)) au)))))) (ai (bf (aL (a7 .eq (ag 3) (gI 1))) (ai (aU (.one 5) (dH false false true (aH false .mul (dH false false true (ag 5) gN (gI 2)) (ag 4)) gN (ag 4))) aw) aw) (ai (aW (ag 5)) aw))))
def dF (c:Call):GS:=ai (bf (aL (a7 .isN (ag 1) gN)) (ai (aW (a7 .isN (ag 0) gN)) aw) aw) (ai (bf (eK (aL (bY .bool (ag 1))) (aL (bY .bool (ag 0)))) (ai (aW (eY (bY .bool (ag 1)) (eY (bY .bool (ag 0)) (a7 .eq (ag 0) (ag 1))))) aw) aw) (ai (bf (aL (bY .int (ag 1))) (ai (aW (eY (bY .int (ag 0)) (a7 .eq (ag 0) (ag 1)))) aw) aw) (ai (bf (aL (bY .str (ag 1))) (ai (aW (eY (bY .str (ag 0)) (a7 .eq (ag 0) (ag 1)))) aw) aw) (ai (bf (eK (aL (a7 .ne (bY .tuple (ag 1)) (bY .tuple (ag 0)))) (aL (a7 .ne (bY .list (ag 1)) (bY .list (ag 0))))) rF aw) (ai (bf (aL (a7 .ne (bG .len (af (ag 0) au)) (bG .len (af (ag 1) au)))) rF aw) (ai (aW (a7 .notin wH (cG false 2 (.tup [0,1]) (ot (ag 0) (ag 1)) (cF (az 40 c (af (ag 0) (af (ag 1) au))))))) aw))))))
def gD (c:Call):GS:=ai (aW (bG .tuple (af (cG false 1 (.one 0) (iR (az 15 c (af (ag 0) au))) (cF (a8 (az 25 c (af (ag 1) (af (ag 2) (af (ag 0) au)))) (iS (gI 1))))) au))) aw
def eZ (c:Call):GS:=ai (mC (.one 3) (fM 27 c (af (ag 0) (af (ag 1) au)))) (ai (mC (.one 4) (fM 27 c (af (ag 0) (af (ag 2) au)))) (ai (jm (.tup [5,6,7]) (qB (az 15 c (af (ag 0) au)) (ag 3) (ag 4)) (ai (bf (aL (a7 .ne (ag 6) (ag 7))) (ai (aW (ag 5)) aw) aw) aw)) (ai (aW gN) aw)))
def eT (c:Call):GS:=ai (aU (.one 2) (gS " !\"#$&'()*+,-./0123456789:;<=>?@ABCDEFGHIJKLMNOPQRSTUVWXYZ[\\]^_`")) (ai (aU (.one 2) (aH false .add (ag 2) (gS "abcdefghijklmnopqrstuvwxyz{|}~\t\n"))) (ai (aU (.one 3) (cG false 1 (.one 0) (qE (ag 2)) (oU (aL (a7 .notin (ag 0) (ag 2))) (cF (ag 0))))) (ai (aW (a8 (ag 3) (az 31 c (af (ag 0) (af (bG .len (af (ag 3) au)) au))))) aw)))
def eU (c:Call):GS:=ai (aW (az 64 c (af (ag 0) (af (gS "") au)))) aw
def fP (c:Call):GS:=ai (aU (.one 2) (az 31 c (af (ag 0) (af (aH false .add (bG .len (af (ag 1) au)) (gI 1)) au)))) (ai (aW (aH false .add (aH false .add (ow false true (ag 1) gN (ag 2)) (az 65 c (af (ag 0) au))) (ow true false (ag 1) (aH false .add (ag 2) (az 31 c (af (ag 0) (af (gI 2) au)))) gN))) aw)
def i6 (c:Call):GS:=ai (aW (eY (bY .int (ag 0)) (HN (bY .bool (ag 0))))) aw
def lh (c:Call):GS:=ai (aW (eY (az 67 c (af (ag 0) au)) (lN .le .le (ag 1) (ag 0) (ag 2)))) aw
def gO (c:Call):GS:=ai (bf (eK (bZ (aL (bY .tuple (ag 0)))) (aL (a7 .ne (bG .len (af (ag 0) au)) (ag 1)))) rF aw) (ai (aW (a7 .eq (cG false 1 (.one 0) (iR (ag 0)) (oU (bZ (aL (az 68 c (af (ag 0) (af (ag 3) (af (ag 4) au)))))) (cF (gI 1)))) (bB false au))) aw)
def bx (c:Call):GS:=ai (bf (eK (bZ (aL (bY .tuple (ag 0)))) (aL (a7 .notin (bG .len (af (ag 0) au)) (cU (af (gI 4) (af (gI 5) au)))))) rF aw) (ai (bf (eK (aL (a7 .notin (a8 (ag 0) (gI 0)) (cU (af (gS "turn") (af (gS "join") (af (gS "move") (af (gS "put") au))))))) (aL (a7 .ne (a7 .eq (bG .len (af (ag 0) au)) (gI 5)) (a7 .eq (a8 (ag 0) (gI 0)) (gS "join"))))) rF aw) (ai (bf (eK (bZ (aL (az 69 c (af (cU (af (a8 (ag 0) (gI 1)) au)) (af (gI 1) (af (gI 0) (af (aH false .sub (ag 2) (gI 1)) au))))))) (bZ (aL (az 68 c (af (a8 (ag 0) (iS (gI 1))) (af (gI 1) (af (gI 3) au))))))) rF aw) (ai (bf (aL (a7 .eq (a8 (ag 0) (gI 0)) (gS "turn"))) (ai (aW (az 69 c (af (a8 (ag 0) (gI 2)) (af (ag 1) (af (gI 0) (af (aH false .sub (ag 1) (gI 1)) au)))))) aw) aw) (ai (bf (aL (a7 .eq (a8 (ag 0) (gI 0)) (gS "put"))) (ai (aW (az 68 c (af (a8 (ag 0) (gI 2)) (af (gI 0) (af (aH false .sub (ag 1) (gI 1)) au))))) aw) aw) (ai (bf (bZ (aL (az 68 c (af (a8 (ag 0) (gI 2)) (af (gI 0) (af (aH false .sub (ag 2) (gI 1)) au)))))) rF aw) (ai (bf (aL (a7 .eq (a8 (ag 0) (gI 0)) (gS "move"))) (ai (aW zY) aw) aw) (ai (bf (eK (bZ (aL (bY .tuple (a8 (ag 0) (gI 3))))) (aL (a7 .ne (bG .len (af (a8 (ag 0) (gI 3)) au)) (ag 1)))) rF aw) (ai (aW (a7 .eq (cG false 1 (.one 0) (iR (a8 (ag 0) (gI 3))) (oU (bZ (aL (az 69 c (af (ag 0) (af (ag 2) (af (gI 0) (af (aH false .sub (ag 2) (gI 1)) au))))))) (cF (gI 1)))) (bB false au))) aw))))))))
def d7 (c:Call):GS:=ai (bf (eK (bZ (aL (bY .tuple (ag 0)))) (eK (aL (a7 .ne (bG .len (af (ag 0) au)) (gI 3))) (bZ (aL (az 68 c (af (a8 (ag 0) (gI 0)) (af (gI 2) (af (gI 4) au)))))))) rF aw) (ai (bf (eK (bZ (aL (az 68 c (af (a8 (ag 0) (gI 1)) (af (gI 1) (af (gI 2) au)))))) (eK (bZ (aL (bY .tuple (a8 (ag 0) (gI 2))))) (bZ (aL (lN .le .le (gI 1) (bG .len (af (a8 (ag 0) (gI 2)) au)) (gI 6)))))) rF aw) (ai (aW (a7 .eq (cG false 1 (.one 0) (iR (a8 (ag 0) (gI 2))) (oU (bZ (aL (az 70 c (af (ag 0) (af (a8 (ag 1) (gI 0)) (af (a8 (ag 1) (gI 1)) au)))))) (cF (gI 1)))) (bB false au))) aw))
noncomputable def g7 (c:Call):GS:=ai (aU (.one 3) (az 31 c (af (ag 0) (af (gI 8) au)))) (ai (aU (.one 4) (az 31 c (af (ag 0) (af (gI 20) au)))) (ai (aU (.one 5) (aH false .sub (az 31 c (af (ag 0) (af (gI 9) au))) (gI 2))) (ai (bf (je (aL (bY .tuple (ag 1))) (je (aL (a7 .ne (ag 1) (cU au))) (je (aL (a7 .gt (ag 2) (gI 0))) (aL (a7 .gt (ag 4) (gI 4)))))) (ai (aU (.one 6) (az 31 c (af (ag 0) (af (bG .len (af (ag 1) au)) au)))) (ai (aW (aH false .add (aH false .add (dH false false true (ag 1) gN (ag 6)) (cU (af (az 72 c (af (ag 0) (af (a8 (ag 1) (ag 6)) (af (aH false .sub (ag 2) (gI 1)) au)))) au))) (dH false true false (ag 1) (aH false .add (ag 6) (gI 1)) gN))) aw)) aw) (ai (aU (.one 7) (bB false (af gN (af zY (af wH (af (gS "") (af (gS "turn") (af (gS "join") (af (gS "move") (af (gS "put") (af (gS "Turn") (af (cU au) (af (bB false au) (af (aH false .pow (gI 10) (gI 20)) (af (iS (gI 1)) (af (gI 0) au)))))))))))))))) (ai (aU (.one 7) (aH false .add (ag 7) (bB false (af (gI 1) (af (gI 4) (af (cU (af (gI 0) au)) (af (bB false (af (gI 0) au)) (af (gS "0") (af (gI 7) au))))))))) (ai (bf (aL (bY .tuple (ag 1))) (ai (aU (.one 8) (bB false (af (bG (.list false) (af (ag 1) au)) (af (aH false .add (ag 1) (dH false false true (ag 1) gN (gI 1))) (af (dH false false true (ag 1) gN (iS (gI 1))) (af (mJ false (ag 1)) (af (aH false .add (ag 1) (cU (af (ag 5) au))) (af (dH false true false (ag 1) (gI 1) gN) (af (cU (af (ag 1) au)) au))))))))) (ai (aW (a8 (aH false .add (ag 8) (bB false (af (a8 (ag 7) (ag 4)) au))) (ag 3))) aw)) aw) (ai (bf (aL (az 67 c (af (ag 1) au))) (ai (aW (a8 (bB false (af (aH false .add (ag 1) (gI 1)) (af (aH false .sub (ag 1) (gI 1)) (af (aH false .sub (gI 0) (ag 1)) (af (ag 5) (af (ag 5) (af (a7 .eq (ag 1) (gI 1)) (af (aH false .sub (gI 3) (ag 1)) (af (a8 (ag 7) (ag 4)) au))))))))) (ag 3))) aw) aw) (ai (bf (je (aL (bY .str (ag 1))) (aL (a7 .lt (ag 3) (gI 3)))) (ai (aW (az 66 c (af (ag 0) (af (ag 1) au)))) aw) aw) (ai (aW (a8 (ag 7) (ag 4))) aw)))))))))
def ee (c:Call):GS:=ai (aU (.one 1) (bB false (af (cS (some 0) (ag 0)) (af (cS (some 1) (ag 0)) (af (cS (some 2) (ag 0)) au))))) (ai (aU (.one 1) (aH false .add (ag 1) (bB false (af (cS (some 3) (ag 0)) (af (cS (some 4) (ag 0)) (af (cS (some 5) (ag 0)) au)))))) (ai (aU (.one 1) (aH false .add (ag 1) (bB false (af (cS (some 6) (ag 0)) (af (cS (some 7) (ag 0)) (af (cS (some 8) (ag 0)) au)))))) (ai (aU (.one 1) (aH false .add (ag 1) (bB false (af (cS (some 9) (ag 0)) (af (cS (some 10) (ag 0)) (af (cS (some 11) (ag 0)) au)))))) (ai (aU (.one 1) (aH false .add (ag 1) (bB false (af (cS (some 12) (ag 0)) (af (cS (some 13) (ag 0)) au))))) (ai (bf (eK (aL (a7 .ne (yg (ag 1)) (gI 1))) (eK (bZ (aL (cS none (ag 0)))) (bZ (aL (cS none (ag 0)))))) (ai (aW (bB false (af (gS "odd") au))) aw) aw) (ai (bf (aL (a8 (ag 1) (gI 0))) (ai (aW (bB false (af (gS "row") (af (k9 "place" (ag 0)) au)))) aw) aw) (ai (bf (aL (a8 (ag 1) (gI 1))) (ai (aW (bB false (af (gS "rule") (af (k9 "number" (ag 0)) au)))) aw) aw) (ai (bf (aL (a8 (ag 1) (gI 2))) (ai (aW (bB false (af (gS "step") (af (k9 "place" (ag 0)) au)))) aw) aw) (ai (aU (.one 2) (bB false (af (gS "machine") (af (gS "long") (af (gS "word") (af (gS "work") (af (gS "bound") (af (gS "many") (af (gS "place") (af (gS "deed") (af (gS "nothing") (af (gS "text") (af (gS "line") au))))))))))))) (ai (aW (bB false (af (a8 (ag 2) (aH false .sub (yf (ag 1)) (gI 3))) au))) aw))))))))))
def de (c:Call):GS:=ai (bf (bZ (aL (az 71 c (af (ag 0) au)))) (ai (aW (bB false (af (gS "machine") au))) aw) aw) (ai (bf (bZ (aL (bY .list (ag 1)))) (ai (aW (bB false (af (gS "row") (af (gI 0) au)))) aw) aw) (ai (jm (.tup [2,3]) (mK (ag 1)) (ai (bf (bZ (aL (az 68 c (af (ag 3) (af (gI 0) (af (aH false .sub (bG .len (af (a8 (ag 0) (gI 2)) au)) (gI 1)) au)))))) (ai (aW (bB false (af (gS "row") (af (ag 2) au)))) aw) aw) aw)) (ai (aW (gV (aL (a7 .gt (bG .len (af (ag 1) au)) (gI 40))) (bB false (af (gS "long") au)) gN)) aw)))
def cQ (c:Call):GS:=ai (aU (.one 3) gN) (ai (uK (ai (lM (fM 48 c (af (ag 0) (af (ag 1) (af (ag 2) au))))) aw) 4 (ai (aU (.one 3) (ag 4)) aw)) (ai (aW (gV (aL (a7 .isN (ag 3) gN)) (bB false (af (gS "told") au)) (az 75 c (af (ag 3) au)))) aw))
def cY (c:Call):GS:=ai (aU (.one 3) (az 90 c (af (ag 0) (af (ag 1) au)))) (ai (bf (aL (a7 .isN (ag 3) gN)) (ai (aU (.one 3) (az 90 c (af (ag 0) (af (ag 2) au)))) aw) aw) (ai (aW (gV (aL (a7 .isN (ag 3) gN)) (bB false (af (gS "told") au)) (ag 3))) aw))
def fO (c:Call):GS:=ai (aU (.one 3) (az 31 c (af (ag 0) (af (gI 5) au)))) (ai (aU (.one 4) (az 31 c (af (ag 0) (af (aH false .add (bG .len (af (ag 2) au)) (gI 1)) au)))) (ai (bf (aL (a7 .eq (ag 3) (gI 0))) (ai (aW (ag 2)) aw) aw) (ai (bf (aL (a7 .eq (ag 3) (gI 1))) (ai (aW (dH false false true (aH false .add (ag 2) (aH false .mul (bB false (af (gI 0) au)) (gI 41))) gN (gI 41))) aw) aw) (ai (bf (aL (a7 .eq (ag 3) (gI 2))) (ai (aW (a8 (bB false (af gN (af (bG .tuple (af (ag 2) au)) (af (gS "0") (af (gI 7) (af (cU au) au)))))) (az 31 c (af (ag 0) (af (gI 5) au))))) aw) aw) (ai (aW (aH false .add (aH false .add (aH false .add (dH false false true (ag 2) gN (ag 4)) (bB false (af (az 72 c (af (ag 0) (af (gI 0) (af (gI 0) au)))) au))) (dH false true false (ag 2) (ag 4) gN)) (aH false .mul (bB false (af (gI 0) au)) (aH false .mul (gI 40) (aH false .sub (ag 3) (gI 3)))))) aw)))))
def l9 (c:Call):GS:=ai (aU (.one 1) (az 29 c (af (ag 0) au))) (ai (jm (.one 2) (gj (gI 5)) (ai (aU (.one 3) (az 34 c (af (az 30 c (af (ag 1) au)) (af (gI 3) (af (gI 2) (af (gI 5) au)))))) (ai (aU (.one 4) (az 72 c (af (ag 1) (af (ag 3) (af (gI 5) au))))) (ai (aU (.one 5) (az 35 c (af (ag 1) (af (ag 3) (af (gI 6) au))))) (ai (jm (.one 6) (gj (gI 6)) (ai (aU (.one 7) (az 96 c (af (ag 1) (af (ag 3) (af (ag 5) au))))) (ai (aU (.one 8) (az 96 c (af (ag 1) (af (ag 3) (af (mJ false (ag 5)) au))))) (ai (jm (.one 9) (iR (bB false (af (ag 3) (af (ag 4) au)))) (ai (aU (.one 10) (j4 (af (bB false (af (ag 7) (af (ag 8) au))) au))) (ai (aU (.one 11) (az 95 c (af (ag 9) (af (ag 7) (af (ag 8) au))))) (ai (bf (eK (bZ (aL (az 40 c (af (az 94 c (af (ag 9) (af (ag 7) (af (ag 8) au)))) (af (ag 11) au))))) (aL (a7 .ne (j4 (af (bB false (af (ag 7) (af (ag 8) au))) au)) (ag 10)))) rF aw) aw)))) aw)))) aw))))) (ai (aW zY) aw))
end LD
namespace LD
open PySem
@[simp] theorem bL {α β:Type}{r:Res α}{f:α->Mem->Res β}{k:β->Mem->Prop}:aj (r.bind f) k↔aj r fun a M=>aj (f a M) k:=by cases r<;>rfl
@[simp] theorem gK {α:Type}{a:α}{M:Mem}{k:α->Mem->Prop}:aj (.ok a M) k↔k a M:=Iff.rfl
@[simp] theorem MO {α:Type}{k:α->Mem->Prop}:aj (.bad:Res α) k↔False:=Iff.rfl
@[simp] theorem kO {α:Type}{M:Mem}{o:Option α}{k:α->Mem->Prop}:aj (cZ M o) k↔∃a,o=some a/\k a M:=by cases o<;>simp [cZ]
theorem oj {α:Type}{r:Res α}{k:α->Mem->Prop}:aj r k↔∃a M,r=.ok a M/\k a M:=by
 cases r with
 |ok a M=>exact ⟨fun h=>⟨a,M,rfl,h⟩,fun ⟨_,_,e,h⟩=>by cases e;exact h⟩
 |err=>simp [aj]
 |bad=>simp [aj]
theorem rX {x y:D}{M:Mem}{v:Bool}(px:aG 64 (view M x)=true)(py:aG 64 (view M y)=true)(h:bC (view M x) (view M y)=v):bP .eq x y M=some v:=by
 have e:qH (view M x) (view M y)=some v:=by unfold qH;rw [px,py,h];simp
 show l7 M x y=_
 unfold l7;rw [e]
theorem oH {x y:D}{M:Mem}{v:Bool}(px:aG 64 (view M x)=true)(py:aG 64 (view M y)=true)(h:bC (view M x) (view M y)=v):bP .ne x y M=some (!v):=by
 show (bP .eq x y M).map (!·)=_
 rw [rX px py h];rfl
section
variable {Z:Env}{M:Mem}{a b d lo hi:GE}{s:GA}{t u:GT}{k:D->Mem->Prop}{c:Call}
@[simp] theorem bt {i:Nat}:aj (ag i Z M) k↔∃d,Z[i]?.getD none=some d/\k d M:=by simp [ag]
@[simp] theorem dM {d:D}:aj (gC d Z M) k↔k d M:=Iff.rfl
@[simp] theorem eE {m:Bool}{o:pb}:aj (aH m o a b Z M) k↔aj (a Z M) fun x M=>aj (b Z M) fun y M=>aj (fv m o x y M) k:=by simp [aH]
@[simp] theorem iU {o:ir}:aj (a7 o a b Z M) k↔aj (a Z M) fun x M=>aj (b Z M) fun y M=>∃v,bP o x y M=some v/\k (.bl v) M:=by simp [a7]
@[simp] theorem JH {o o':ir}:aj (lN o o' a b d Z M) k↔aj (a Z M) fun x M=>aj (b Z M) fun y M=>∃v,bP o x y M=some v/\if v=true then aj (d Z M) fun z M=>∃v,bP o' y z M=some v/\k (.bl v) M else k (.bl false) M:=by
 simp only [lN,bL,kO]
 refine iff_of_eq ?_
 congr 1;funext x M;congr 1;funext y M;refine propext (exists_congr fun v=>and_congr_right fun _=>?_)
 cases v<;>simp
@[simp] theorem CV:aj (iS a Z M) k↔aj (a Z M) fun x M=>∃i,x=.int i/\k (.int (-i)) M:=by
 simp only [iS,bL];refine iff_of_eq ?_;congr 1;funext x M;cases x<;>simp
@[simp] theorem CW:aj (eY a b Z M) k↔aj (a Z M) fun x M=>∃v,x=.bl v/\if v=true then aj (b Z M) k else k (.bl false) M:=by
 simp only [eY,bL];refine iff_of_eq ?_;congr 1;funext x M;cases x<;>simp
 rename_i v;cases v<;>simp
@[simp] theorem JG:aj (gV t a b Z M) k↔aj (t Z M) fun v M=>if v=true then aj (a Z M) k else aj (b Z M) k:=by
 simp only [gV,bL];refine iff_of_eq ?_;congr 1;funext v M;cases v<;>simp
@[simp] theorem lD:aj (a8 a b Z M) k↔aj (a Z M) fun x M=>aj (b Z M) fun y M=>∃d,fq x y M=some d/\k d M:=by simp [a8]
@[simp] theorem oB {m hl hh:Bool}:aj (dH m hl hh a lo hi Z M) k↔aj (a Z M) fun x M=>aj (lo Z M) fun l M=>aj (hi Z M) fun h M=>cw hl l=true/\cw hh h=true/\aj (eG m x l h M) k:=by
 simp only [dH,bL]
 refine iff_of_eq ?_
 congr 1;funext x M;congr 1;funext l M;congr 1;funext h M
 cases cw hl l<;>cases cw hh h<;>simp
@[simp] theorem bN {k:List D->Mem->Prop}:aj (au Z M) k↔k [] M:=Iff.rfl
@[simp] theorem bw {k:List D->Mem->Prop}:aj (af a s Z M) k↔aj (a Z M) fun x M=>aj (s Z M) fun xs M=>k (x::xs) M:=by simp [af]
@[simp] theorem jB:aj (cU s Z M) k↔aj (s Z M) fun xs M=>xs.length<=sz/\k (.tup xs) M:=by
 simp only [cU,bL];refine iff_of_eq ?_;congr 1;funext xs M;unfold mE;split<;>simp [*]
theorem u3 {m:Bool}{xs:List D}:aj (bT m xs M) k↔xs.length<=sz/\if m=true then k (.cell M.length) (M++[xs]) else k (.lst xs) M:=by
 unfold bT;cases m<;>split<;>simp [*]
@[simp] theorem cq {xs:List D}:aj (bT false xs M) k↔xs.length<=sz/\k (.lst xs) M:=by simp [u3]
@[simp] theorem wt {xs:List D}:aj (bT true xs M) k↔xs.length<=sz/\k (.cell M.length) (M++[xs]):=by simp [u3]
@[simp] theorem mL {m:Bool}:aj (bB m s Z M) k↔aj (s Z M) fun xs M=>aj (bT m xs M) k:=by simp [bB]
@[simp] theorem fu {f:Nat}:aj (az f c s Z M) k↔aj (s Z M) fun ds M=>aj (c f ds M) k:=by simp [az]
@[simp] theorem EC {i:Nat}:aj (nO i c s Z M) k↔∃f,Z[i]?.getD none=some (.fn f)/\aj (s Z M) fun ds M=>aj (c f ds M) k:=by
 unfold nO
 cases e:Z[i]?.getD none with
 |none=>simp
 |some d=>cases d<;>simp
@[simp] theorem ff {f:vG}:aj (bG f s Z M) k↔aj (s Z M) fun ds M=>aj (gv f ds M) k:=by simp [bG]
@[simp] theorem vn {t:Ty}:aj (bY t a Z M) k↔aj (a Z M) fun x M=>∃v,bX t x=some v/\k (.bl v) M:=by simp [bY]
@[simp] theorem HX {fs:List (Str×Nat)}:aj (oz fs a Z M) k↔aj (a Z M) fun x M=>∃y f,x=.str y/\fs.lookup y=some f/\k (.fn f) M:=by
 simp only [oz,bL];refine iff_of_eq ?_;congr 1;funext x M;cases x<;>simp
 exact ⟨fun ⟨_,⟨f,h,e⟩,q⟩=>⟨f,h,e ▸ q⟩,fun ⟨f,h,q⟩=>⟨_,⟨f,h,rfl⟩,q⟩⟩
@[simp] theorem Nf {fs:List (Str×Nat)}:aj (oy fs a Z M) k↔aj (a Z M) fun x M=>∃y,x=.str y/\k (.bl (!(fs.lookup y).isSome)) M:=by
 simp only [oy,bL];refine iff_of_eq ?_;congr 1;funext x M;cases x<;>simp
@[simp] theorem EB {m:Bool}:aj (nN m a Z M) k↔aj (a Z M) fun x M=>∃n,x=.int n/\(-(2^62)<=n/\n<2^20)/\aj (bT m ((List.range n.toNat).map fun (k:Nat)=>D.int (k:Int)) M) k:=by
 simp only [nN,bL];refine iff_of_eq ?_;congr 1;funext x M
 cases x<;>simp
 rename_i n
 split<;>simp [*]
variable {kb:Bool->Mem->Prop}
@[simp] theorem jw:aj (aL a Z M) kb↔aj (a Z M) fun x M=>∃v,lI M x=some v/\kb v M:=by simp [aL]
@[simp] theorem IS:aj (je t u Z M) kb↔aj (t Z M) fun v M=>if v=true then aj (u Z M) kb else kb false M:=by
 simp only [je,bL];refine iff_of_eq ?_;congr 1;funext v M;cases v<;>simp
@[simp] theorem AS:aj (eK t u Z M) kb↔aj (t Z M) fun v M=>if v=true then kb true M else aj (u Z M) kb:=by
 simp only [eK,bL];refine iff_of_eq ?_;congr 1;funext v M;cases v<;>simp
@[simp] theorem wZ:aj (bZ t Z M) kb↔aj (t Z M) fun v M=>kb (!v) M:=by simp [bZ]
variable {kf:Fl->Mem->Prop}{sa sb:GS}
def mn (b:GS)(k:Fl->Mem->Prop):Fl->Mem->Prop
 |.next Z,M=>aj (b Z M) k
 |.ret d,M=>k (.ret d) M
 |.exc x Z,M=>k (.exc x Z) M
@[simp] theorem KI {b:GS}{x:D}:mn b kf (.exc x Z) M↔kf (.exc x Z) M:=Iff.rfl
@[simp] theorem eJ {b:GS}:mn b kf (.next Z) M↔aj (b Z M) kf:=Iff.rfl
@[simp] theorem uk {b:GS}{d:D}:mn b kf (.ret d) M↔kf (.ret d) M:=Iff.rfl
@[simp] theorem aR:aj (ai sa sb Z M) kf↔aj (sa Z M) (mn sb kf):=by
 simp only [ai,bL];refine iff_of_eq ?_;congr 1;funext fl M;cases fl<;>rfl
@[simp] theorem qc:aj (aw Z M) kf↔kf (.next Z) M:=Iff.rfl
@[simp] theorem gp {i:Nat}:aj (aU (.one i) a Z M) kf↔aj (a Z M) fun x M=>kf (.next (Z.set i (some x))) M:=by simp [aU,cX]
@[simp] theorem Fy {l:List Nat}:aj (aU (.tup l) a Z M) kf↔aj (a Z M) fun x M=>∃ds ρ1,x=.tup ds/\gm l ds Z=some ρ1/\kf (.next ρ1) M:=by
 simp only [aU,bL,kO,gK];refine iff_of_eq ?_;congr 1;funext x M;cases x<;>simp [cX]
@[simp] theorem Fw:aj (jl a b d Z M) kf↔aj (d Z M) fun z M=>aj (a Z M) fun x M=>aj (b Z M) fun y M=>∃j n ds i,x=.cell j/\y=.int n/\M[j]?=some ds/\bV ds.length n=some i/\kf (.next Z) (M.set j (ds.set i z)):=by
 simp only [jl,bL]
 refine iff_of_eq ?_
 congr 1;funext z M;congr 1;funext x M;congr 1;funext y M
 cases x with
 | cell j =>
   cases y with
   | int n =>
     cases e:M[j]? with
     |none=>simp [e]
     | some ds =>
       cases e2:bV ds.length n with
       |none=>simp [e,e2]
       |some i=>simp [e,e2]
   |_=>simp
 |_=>simp
@[simp] theorem FA:aj (pB a d Z M) kf↔aj (a Z M) fun x M=>aj (d Z M) fun z M=>∃j ds,x=.cell j/\M[j]?=some ds/\ds.length<sz/\kf (.next Z) (M.set j (ds++[z])):=by
 simp only [pB,bL]
 refine iff_of_eq ?_
 congr 1;funext x M;congr 1;funext z M
 cases x<;>simp
 rename_i j
 cases e:M[j]? with
 |none=>simp
 |some ds=>by_cases h:ds.length<sz<;>simp [h]
@[simp] theorem cB:aj (aW a Z M) kf↔aj (a Z M) fun x M=>kf (.ret x) M:=by simp [aW]
@[simp] theorem Ml:aj (Ja Z M) kf↔kf (.ret .non) M:=Iff.rfl
@[simp] theorem Mm:aj (Jb Z M) kf↔kf (.next Z) M:=Iff.rfl
@[simp] theorem MK:aj (KZ Z M) kf↔False:=Iff.rfl
@[simp] theorem kF:aj (bf t sa sb Z M) kf↔aj (t Z M) fun v M=>if v=true then aj (sa Z M) kf else aj (sb Z M) kf:=by
 simp only [bf,bL];refine iff_of_eq ?_;congr 1;funext v M;cases v<;>simp
variable {kw:Walk->Mem->Prop}
@[simp] theorem kj:aj (gj a Z M) kw↔aj (a Z M) fun x M=>∃n,x=.int n/\(-(2^62)<=n/\n<2^62)/\kw (fun _=>some ((List.range n.toNat).map fun (k:Nat)=>D.int (k:Int))) M:=by
 simp only [gj,bL];refine iff_of_eq ?_;congr 1;funext x M;cases x<;>simp
 rename_i n
 split<;>simp [*]
@[simp] theorem IM:aj (iR a Z M) kw↔aj (a Z M) fun x M=>dS x=true/\kw (fun M=>cm M x) M:=by
 simp only [iR,bL];refine iff_of_eq ?_;congr 1;funext x M;cases x<;>simp [dS]<;>rfl
@[simp] theorem mY:aj (mK a Z M) kw↔aj (a Z M) fun x M=>(dS x&&fe x)=true/\kw (fun M=>(cm M x).map (dn 0)) M:=by
 simp only [mK,bL];refine iff_of_eq ?_;congr 1;funext x M;cases x<;>simp [dS,fe]<;>rfl
@[simp] theorem Mv:aj (ot a b Z M) kw↔aj (a Z M) fun x M=>aj (b Z M) fun y M=>(dS x&&dS y)=true/\kw (oa x y) M:=by
 simp only [ot,bL];refine iff_of_eq ?_;congr 1;funext x M;congr 1;funext y M;split<;>simp [*]
def jU (k:D->Mem->Prop):Fl->Mem->Prop
 |.ret d,M=>k d M
 |.next _,M=>k .non M
 |.exc _ _,_=>False
@[simp] theorem Mp {d:D}:jU k (.ret d) M↔k d M:=Iff.rfl
@[simp] theorem LZ:jU k (.next Z) M↔k .non M:=Iff.rfl
theorem aK {P:Nat->Option Df}{n f:Nat}{d:Df}{ds:List D}(e:P f=some d)(hl:ds.length=d.params)(h:aj (d.body (av P n) (ds.map some++List.replicate (d.slots-ds.length) none) M) (jU k)):aj (av P (n+1) f ds M) k:=by
 show aj (match P f with|none=>Res.bad|some d=>ij (av P n) d ds M) k
 rw [e]
 show aj (ij (av P n) d ds M) k
 unfold ij
 rw [if_pos hl]
 revert h
 cases d.body (av P n) (ds.map some++List.replicate (d.slots-ds.length) none) M with
 |ok fl M=>cases fl<;>exact id
 |err=>exact id
 |bad=>exact id
@[simp] theorem MP {α:Type}{a:α}{k:α->Mem->Prop}{kx:D->Mem->Prop}:kQ (.ok a M) k kx↔k a M:=Iff.rfl
@[simp] theorem Mn {α:Type}{x:D}{k:α->Mem->Prop}{kx:D->Mem->Prop}:kQ (.err x M:Res α) k kx↔kx x M:=Iff.rfl
def yi (k kx:D->Mem->Prop):Fl->Mem->Prop
 |.ret d,M=>k d M
 |.next _,M=>k .non M
 |.exc x _,M=>kx x M
theorem fE {P:Nat->Option Df}{n f:Nat}{d:Df}{ds:List D}{kx:D->Mem->Prop}(e:P f=some d)(hl:ds.length=d.params)(h:aj (d.body (av P n) (ds.map some++List.replicate (d.slots-ds.length) none) M) (yi k kx)):kQ (av P (n+1) f ds M) k kx:=by
 show kQ (match P f with|none=>Res.bad|some d=>ij (av P n) d ds M) k kx
 rw [e]
 show kQ (ij (av P n) d ds M) k kx
 unfold ij
 rw [if_pos hl]
 revert h
 cases d.body (av P n) (ds.map some++List.replicate (d.slots-ds.length) none) M with
 |ok fl M=>cases fl<;>exact id
 |err=>exact id
 |bad=>exact id
theorem eQ {α:Type}{r:Res α}{x:D}{M':Mem}(h:kQ r (fun _ _=>False) fun y M=>y=x/\M=M'):r=.err x M':=by
 cases r with
 |ok=>exact h.elim
 |err y M=>obtain ⟨rfl,rfl⟩:=h;rfl
 |bad=>exact h.elim
@[simp] theorem Nc {d:D}{kx:D->Mem->Prop}:yi k kx (.ret d) M↔k d M:=Iff.rfl
@[simp] theorem Mo {kx:D->Mem->Prop}:yi k kx (.next Z) M↔k .non M:=Iff.rfl
@[simp] theorem Nd {x:D}{kx:D->Mem->Prop}:yi k kx (.exc x Z) M↔kx x M:=Iff.rfl
@[simp] theorem fj {f:Nat}{kx:D->Mem->Prop}:kQ (fM f c s Z M) k kx↔aj (s Z M) fun ds M=>kQ (c f ds M) k kx:=by
 unfold fM
 cases s Z M<;>rfl
@[simp] theorem jJ:aj (lM a Z M) kf↔kQ (a Z M) (fun _ M=>kf (.next Z) M) (fun x M=>kf (.exc x Z) M):=by
 unfold lM
 cases a Z M<;>rfl
@[simp] theorem qW {i:Nat}:aj (mC (.one i) a Z M) kf↔kQ (a Z M) (fun x M=>kf (.next (Z.set i (some x))) M) (fun x M=>kf (.exc x Z) M):=by
 unfold mC
 cases a Z M<;>rfl
@[simp] theorem KY {i:Nat}:aj (kI i s Z M) kf↔aj (s Z M) fun ds M=>ds.length<=sz/\kf (.exc (.exc i none) Z) M:=by
 unfold kI
 cases s Z M with
 |ok ds M1=>by_cases h:ds.length<=sz<;>simp [h]
 |err=>exact Iff.rfl
 |bad=>exact Iff.rfl
def HV (i:Nat)(kf:Fl->Mem->Prop):Fl->Mem->Prop
 |.next Z,M=>kf (.next (Z.set i none)) M
 |.ret d,M=>kf (.ret d) M
 |.exc _ _,_=>False
def KG (i:Nat)(h:GS)(kf:Fl->Mem->Prop):Fl->Mem->Prop
 |.exc x Z,M=>aj (h (Z.set i (some x)) M) (HV i kf)
 |fl,M=>kf fl M
@[simp] theorem ze {i:Nat}{h:GS}:aj (uK sa i h Z M) kf↔aj (sa Z M) (KG i h kf):=by
 simp only [uK,bL];refine iff_of_eq ?_;congr 1;funext fl M
 cases fl with
 | exc x Z =>
   show aj ((h (Z.set i (some x)) M).bind (AH i)) kf=aj (h (Z.set i (some x)) M) (HV i kf)
   simp only [bL];congr 1;funext fl M;cases fl<;>rfl
 |next Z=>rfl
 |ret d=>rfl
theorem xT {α:Type}(f:α->D->Mem->Res α)(ds:List D):∀(m i:Nat) (a:α) (M:Mem),ds.length-i<m->i<=ds.length->fD f (fun _=>some ds) m i a M=CT f (ds.drop i) a M
 |0,i,a,M,h,_=>absurd h (Nat.not_lt_zero _)
 | m + 1, i, a, M, h, hi => by
   show (match ds[i]? with|none=>Res.ok a M|some d=>(f a d M).bind (fD f (fun _=>some ds) m (i+1)))=_
   by_cases hlt:i<ds.length
   ·rw [List.drop_eq_getElem_cons hlt,List.getElem?_eq_getElem hlt]
    show (f a ds[i] M).bind _=(f a ds[i] M).bind _
    congr 1
    funext a M
    exact xT f ds m (i+1) a M (by omega) hlt
   ·have e:i=ds.length:=by omega
    subst e
    rw [List.getElem?_eq_none (tqg _),List.drop_length]
    rfl
theorem ic {α:Type}{f:α->D->Mem->Res α}{w:Walk}{ds:List D}{a:α}{k:α->Mem->Prop}(I:Nat->α->Mem->Prop)(hw:∀i a M,I i a M->w M=some ds)(h0:I 0 a M)
 (hs:∀i d a M,ds[i]?=some d->I i a M->aj (f a d M) (I (i+1))) (hk:∀a M,I ds.length a M->k a M):aj (dP f w a M) k:=by
 have key:∀(m i:Nat) (a:α) (M:Mem),ds.length-i<m->i<=ds.length->I i a M->aj (fD f w m i a M) k:=by
  intro m
  induction m with
  |zero=>intro i a M h;exact absurd h (Nat.not_lt_zero _)
  | succ m ih =>
    intro i a M h hi hI
    show aj (match w M with|none=>Res.bad|some ds=>match ds[i]? with|none=>Res.ok a M|some d=>(f a d M).bind (fD f w m (i+1))) k
    rw [hw i a M hI]
    dsimp only
    by_cases hlt:i<ds.length
    ·rw [List.getElem?_eq_getElem hlt]
     simp only [bL]
     exact bo (hs i ds[i] a M (List.getElem?_eq_getElem hlt) hI) fun a' M' h'=>ih (i+1) a' M' (by omega) hlt h'
    ·have e:i=ds.length:=by omega
     subst e
     rw [List.getElem?_eq_none (tqg _)]
     exact hk a M hI
 unfold dP
 rw [hw 0 a M h0]
 exact key _ 0 a M (by simp) (Nat.zero_le _) h0
theorem ft {t:dv}{w:Walk}{gb:GS}{ds:List D}(I:Nat->Env->Mem->Prop)(hw:∀i Z M,I i Z M->w M=some ds)(h0:I 0 Z M)
 (hs:∀i d Z M,ds[i]?=some d->I i Z M->∃ρ1,cX t d Z=some ρ1/\aj (gb ρ1 M) fun fl M=>∃ρ',fl=.next ρ'/\I (i+1) ρ' M) (hk:∀Z M,I ds.length Z M->kf (.next Z) M):aj (dP (iw t gb) w (.next Z) M) kf:=by
 refine ic (fun i fl M=>∃Z,fl=.next Z/\I i Z M) (fun i fl M ⟨Z,_,h⟩=>hw i Z M h) ⟨Z,rfl,h0⟩ ?_ ?_
 ·rintro i d fl M hd ⟨Z,rfl,hI⟩
  obtain ⟨ρ1,e,h⟩:=hs i d Z M hd hI
  simp only [iw,bL,kO,e]
  exact ⟨ρ1,rfl,h⟩
 ·rintro fl M ⟨Z,rfl,hI⟩
  exact hk Z M hI
@[simp] theorem iG {tg:dv}{w:GW}{gb:GS}:aj (jm tg w gb Z M) kf↔aj (w Z M) fun w M=>aj (dP (iw tg gb) w (.next Z) M) kf:=by simp [jm]
@[simp] theorem lg {m:Bool}{n:Nat}{tg:dv}{w:GW}{g:GB}:aj (cG m n tg w g Z M) k↔aj (w Z M) fun w M=>aj (dP (dR tg g (List.replicate n none++Z)) w [] M) fun acc M=>aj (bT m acc M) k:=by simp [cG]
variable {kl:List D->Mem->Prop}
@[simp] theorem C6 {ge:GE}{acc:List D}:aj (cF ge Z acc M) kl↔aj (ge Z M) fun x M=>acc.length<sz/\kl (acc++[x]) M:=by
 simp only [cF,bL];refine iff_of_eq ?_;congr 1;funext x M;split<;>simp [*]
theorem comp_map {tg:dv}{w:Walk}{ge:GE}{ds:List D}{ρ0:Env}(I:Nat->List D->Mem->Prop)(hz:ds.length<=sz)(hw:∀i acc M,I i acc M->w M=some ds)(h0:I 0 [] M)
 (hs:∀i d acc M,ds[i]?=some d->acc.length=i->I i acc M->∃ρ1,cX tg d ρ0=some ρ1/\aj (ge ρ1 M) fun x M=>I (i+1) (acc++[x]) M) (hk:∀acc M,acc.length=ds.length->I ds.length acc M->kl acc M) :
 aj (dP (dR tg (cF ge) ρ0) w [] M) kl:=by
 refine ic (fun i acc M=>acc.length=i/\I i acc M) (fun i acc M h=>hw i acc M h.2) ⟨rfl,h0⟩ ?_ (fun acc M h=>hk acc M h.1 h.2)
 rintro i d acc M hd ⟨hl,hI⟩
 obtain ⟨ρ1,e,h⟩:=hs i d acc M hd hl hI
 have hi:i<ds.length:=(List.getElem?_eq_some_iff.mp hd).1
 simp only [dR,bL,kO,e,C6]
 exact ⟨ρ1,rfl,bo h fun x M h=>⟨by omega,by simp [hl],h⟩⟩
end
theorem aI {t:GT}{A rest:GS}{Z:Env}{M:Mem}{k:Fl->Mem->Prop}(ht:t Z M=.ok false M)(h:aj (rest Z M) k):aj (ai (bf t A aw) rest Z M) k:=by
 simp only [aR,kF]
 rw [ht]
 exact h
theorem bM {t:GT}{e:GE}{rest:GS}{Z:Env}{M:Mem}{v:D}{k:Fl->Mem->Prop}(ht:t Z M=.ok true M)(he:e Z M=.ok v M)(h:k (.ret v) M):aj (ai (bf t (ai (aW e) aw) aw) rest Z M) k:=by
 simp only [aR,kF,cB]
 rw [ht]
 show aj (e Z M) _
 rw [he]
 exact h
theorem cV {e:GE}{Z:Env}{M:Mem}{v:D}{k:Fl->Mem->Prop}(he:e Z M=.ok v M)(h:k (.ret v) M):aj (ai (aW e) aw Z M) k:=by
 simp only [aR,cB]
 rw [he]
 exact h
theorem c8 {r:Res Fl}{v:D}{M:Mem}(e:r=.ok (.ret v) M):aj r (jU fun x M'=>x=v/\M'=M):=by rw [e];exact ⟨rfl,rfl⟩
end LD
namespace LD
open PySem
structure HasM0 (P:Nat->Option Df):Prop where
 is_between:P 0=some ⟨3,3,fx⟩
 is_word:P 1=some ⟨2,2,jO⟩
 is_place:P 2=some ⟨2,2,iX⟩
 is_cost:P 3=some ⟨1,1,jP⟩
 is_tuple_of:P 4=some ⟨2,2,fN⟩
 is_table:P 5=some ⟨2,2,iW⟩
 is_double_table:P 6=some ⟨2,2,d5⟩
 is_turn:P 7=some ⟨3,6,gx⟩
 is_join:P 8=some ⟨3,7,gz⟩
 is_move:P 9=some ⟨3,6,gy⟩
 is_put:P 10=some ⟨3,6,ik⟩
 is_deed:P 11=some ⟨3,5,gA⟩
 is_machine:P 12=some ⟨1,4,fw⟩
 need_machine:P 13=some ⟨1,1,c9⟩
 is_deed_number:P 16=some ⟨2,2,eC⟩
 need_numbers:P 17=some ⟨2,4,cH⟩
 need_row:P 18=some ⟨2,2,dD⟩
structure HasM (P:Nat->Option Df):Prop extends HasM0 P where
 turned:P 20=some ⟨2,6,mP⟩
 joined:P 21=some ⟨2,7,mR⟩
 moved:P 22=some ⟨2,6,oM⟩
 put_in:P 23=some ⟨2,6,mQ⟩
 done:P 24=some ⟨2,4,qK⟩
 all_standing:P 25=some ⟨3,5,gM⟩
structure HasP0 (P:Nat->Option Df):Prop where
 law_spread:P 28=some ⟨2,6,hV⟩
 law_open:P 29=some ⟨1,4,jD⟩
 law_anew:P 30=some ⟨1,1,jE⟩
 law_take:P 31=some ⟨2,5,lQ⟩
structure HasP (P:Nat->Option Df):Prop extends HasP0 P where
 law_tab:P 32=some ⟨2,6,iY⟩
 law_deed:P 33=some ⟨3,7,gZ⟩
 law_machine:P 34=some ⟨4,8,fy⟩
instance coeHasM {P:Nat->Option Df}:Coe (HasM P) (HasM0 P):=⟨HasM.toHasM0⟩
instance coeHasP {P:Nat->Option Df}:Coe (HasP P) (HasP0 P):=⟨HasP.toHasP0⟩
@[simp] theorem Nh {d:Option D}{r:Env}:(d::r)[0]?.getD none=d:=rfl
section
variable {M:Mem}{k:D->Mem->Prop}
theorem kS {α:Type}{c:Prop}[Decidable c]{r:Res α}{k:α->Mem->Prop}:aj (if c then r else .bad) k↔c/\aj r k:=by split<;>simp [*]
@[simp] theorem gE {m:Bool}{i j:Int}:aj (fv m .add (.int i) (.int j) M) k↔k (.int (i+j)) M:=Iff.rfl
@[simp] theorem ng {m:Bool}{i j:Int}:aj (fv m .sub (.int i) (.int j) M) k↔k (.int (i-j)) M:=Iff.rfl
@[simp] theorem vf {m:Bool}{i j:Int}:aj (fv m .mul (.int i) (.int j) M) k↔((-(2^64)<i/\i<2^64)\/(-(2^64)<j/\j<2^64))/\k (.int (i*j)) M:=kS
@[simp] theorem qr {m:Bool}{i j:Int}:aj (fv m .mod (.int i) (.int j) M) k↔0<j/\k (.int (i % j)) M:=kS
@[simp] theorem Mq {m:Bool}{i j:Int}:aj (fv m .fdiv (.int i) (.int j) M) k↔(0<j/\j<1073741824)/\k (.int (i / j)) M:=kS
@[simp] theorem uR {m:Bool}{i j:Int}:aj (fv m .pow (.int i) (.int j) M) k↔(0<=j/\j<=1000000/\i.natAbs<2^64)/\k (.int (i^j.toNat)) M:=kS
@[simp] theorem ma {m:Bool}{x y:List D}:aj (fv m .add (.tup x) (.tup y) M) k↔(x++y).length<=sz/\k (.tup (x++y)) M:=by
 show aj (mE _ _) k↔_
 unfold mE;exact kS
@[simp] theorem qL {m:Bool}{x y:List D}:aj (fv m .add (.lst x) (.lst y) M) k↔aj (bT m (x++y) M) k:=Iff.rfl
@[simp] theorem Mw {i j:Int}:bP .lt (.int i) (.int j) M=some (decide (i<j)):=rfl
@[simp] theorem Mx {i j:Int}:bP .le (.int i) (.int j) M=some (decide (i<=j)):=rfl
@[simp] theorem My {i j:Int}:bP .gt (.int i) (.int j) M=some (decide (j<i)):=rfl
@[simp] theorem Mz {i j:Int}:bP .ge (.int i) (.int j) M=some (decide (j<=i)):=rfl
@[simp] theorem Ni {i j:Int}:bP .eq (.int i) (.int j) M=some (i==j):=rfl
@[simp] theorem JZ {i j:Int}:bP .ne (.int i) (.int j) M=some (!(i==j)):=rfl
@[simp] theorem ME {b:Bool}:lI M (.bl b)=some b:=rfl
@[simp] theorem Mi {ds:List D}:lI M (.tup ds)=some (!ds.isEmpty):=rfl
@[simp] theorem Mj {ds:List D}:lI M (.lst ds)=some (!ds.isEmpty):=rfl
@[simp] theorem oo {ds:List D}:aj (gv .len [.tup ds] M) k↔k (.int ds.length) M:=Iff.rfl
@[simp] theorem Eh {ds:List D}:aj (gv .len [.lst ds] M) k↔k (.int ds.length) M:=Iff.rfl
@[simp] theorem E4 {ds:List D}:aj (gv .all [.lst ds] M) k↔∃bs,boolsOf ds=some bs/\k (.bl (bs.all id)) M:=by
 show aj (match boolsOf ds with|some bs=>_|none=>_) k↔_
 cases boolsOf ds<;>simp
@[simp] theorem Kc {ds:List D}:aj (gv .tuple [.lst ds] M) k↔k (.tup ds) M:=Iff.rfl
@[simp] theorem wY {j:Nat}:aj (gv .tuple [.cell j] M) k↔∃ds,M[j]?=some ds/\k (.tup ds) M:=by
 show aj (match M[j]? with|some xs=>_|none=>_) k↔_
 cases M[j]?<;>simp
@[simp] theorem BO {m:Bool}{ds:List D}:aj (gv (.list m) [.lst ds] M) k↔aj (bT m ds M) k:=Iff.rfl
@[simp] theorem jt {ds:List D}{i:Int}:fq (.tup ds) (.int i) M=(bV ds.length i).bind fun j=>ds[j]?:=rfl
@[simp] theorem wD {ds:List D}{i:Int}:fq (.lst ds) (.int i) M=(bV ds.length i).bind fun j=>ds[j]?:=rfl
@[simp] theorem LV {j:Nat}{i:Int}:fq (.cell j) (.int i) M=(M[j]?).bind fun ds=>(bV ds.length i).bind fun j=>ds[j]?:=rfl
theorem gq {n i:Nat}(h:i<n):bV n (i:Int)=some i:=by
 unfold bV;rw [if_pos (Int.natCast_nonneg i),if_pos (by exact_mod_cast h)];rfl
theorem En {n:Nat}(h:0<n):bV n (-1)=some (n-1):=by
 unfold bV
 rw [if_neg (by omega),if_pos (by omega)]
 congr 1;omega
end
theorem aO {α:Type}{r:Res α}{d:α}{M:Mem}(h:aj r fun x M'=>x=d/\M'=M):r=.ok d M:=by
 obtain ⟨a,M',e,rfl,rfl⟩:=oj.mp h
 exact e
theorem aE {r:Res D}{d:D}{M:Mem}(h:aj r fun x M'=>x=d/\M'=M):r=.ok d M:=by
 obtain ⟨a,M',e,rfl,rfl⟩:=oj.mp h
 exact e
section
variable {P:Nat->Option Df}(h:HasM0 P){M:Mem}
include h
theorem w9 (n:Nat)(t lo hi:Int):av P (n+1) 0 [.int t,.int lo,.int hi] M=.ok (.bl (decide (lo<=t)&&decide (t<=hi))) M:=by
 refine aE (aK h.is_between rfl ?_)
 simp [fx,bX]
 by_cases h1:lo<=t<;>simp [h1]<;>omega
end
theorem nV {tg:dv}{w:Walk}{ge:GE}{ds:List D}{ρ0:Env}{M:Mem}{kl:List D->Mem->Prop}(f:D->D)(hz:ds.length<=sz)(hw:w M=some ds)(hs:∀d∈ds,∃ρ1,cX tg d ρ0=some ρ1/\ge ρ1 M=.ok (f d) M)(hk:kl (ds.map f) M) :
 aj (dP (dR tg (cF ge) ρ0) w [] M) kl:=by
 refine comp_map (fun i acc M'=>M'=M/\acc=(ds.take i).map f) hz (fun i acc M' h=>by rw [h.1];exact hw) ⟨rfl,rfl⟩ ?_ ?_
 ·rintro i d acc M' hd _ ⟨rfl,rfl⟩
  obtain ⟨ρ1,e1,e2⟩:=hs d (List.mem_of_getElem? hd)
  refine ⟨ρ1,e1,?_⟩
  rw [e2]
  refine ⟨rfl,?_⟩
  have hi:i<ds.length:=(List.getElem?_eq_some_iff.mp hd).1
  rw [List.take_succ,hd]
  simp
 ·rintro acc M' _ ⟨rfl,rfl⟩
  simpa using hk
abbrev nD (n:Nat):D:=.int (n:Int)
def bg (l:List Nat):D:=.tup (l.map nD)
inductive bq where
 |turn (at_:Nat) (tab:List Nat) (cost:Nat)
 |join (at_ other:Nat) (tab:List (List Nat)) (cost:Nat)
 |move (at_ other cost:Nat)
 |put (at_ word cost:Nat)
def bq.d:bq->D
 |.turn a t c=>.tup [.str "turn",nD a,bg t,nD c]
 |.join a o t c=>.tup [.str "join",nD a,nD o,.tup (t.map bg),nD c]
 |.move a o c=>.tup [.str "move",nD a,nD o,nD c]
 |.put a w c=>.tup [.str "put",nD a,nD w,nD c]
def bq.cost:bq->Nat
 |.turn _ _ c=>c
 |.join _ _ _ c=>c
 |.move _ _ c=>c
 |.put _ _ c=>c
structure bu where
 words:Nat
 places:Nat
 deeds:List bq
def bu.d (m:bu):D:=.tup [nD m.words,nD m.places,.tup (m.deeds.map bq.d)]
def hZ (w:Nat)(t:List Nat):Prop:=t.length=w/\∀x∈t,x<w
def fQ (c:Nat):Prop:=1<=c/\c<=3
def cT (w p:Nat):bq->Prop
 |.turn a t c=>a<p/\hZ w t/\fQ c
 |.join a o t c=>a<p/\o<p/\(t.length=w/\∀x∈t,hZ w x)/\fQ c
 |.move a o c=>a<p/\o<p/\fQ c
 |.put a x c=>a<p/\x<w/\fQ c
structure cK (m:bu):Prop where
 w2:2<=m.words
 w4:m.words<=4
 p1:1<=m.places
 p2:m.places<=2
 d1:1<=m.deeds.length
 d6:m.deeds.length<=6
 ok:∀d∈m.deeds,cT m.words m.places d
theorem aM {n:Nat}(h:n<=100000):n<=sz:=tqh h (by decide)
theorem LH:dA.lookup (Str.ofString "turn")=some 7:=by decide +kernel
theorem LG:dA.lookup (Str.ofString "join")=some 8:=by decide +kernel
theorem LF:dA.lookup (Str.ofString "move")=some 9:=by decide +kernel
theorem LC:dA.lookup (Str.ofString "put")=some 10:=by decide +kernel
end LD
namespace LD
open PySem
section
variable {Z:Env}{M:Mem}{a b:GE}{s:GA}{k:D->Mem->Prop}{kf:Fl->Mem->Prop}{t u:GT}{A rest:GS}
theorem cv {t rest:GS}{ρ':Env}(e:t Z M=.ok (.next ρ') M)(h:aj (rest ρ' M) kf):aj (ai t rest Z M) kf:=by
 simp only [aR]
 rw [e]
 exact h
theorem aZ {x:D}{xs:List D}(ea:a Z M=.ok x M)(es:s Z M=.ok xs M):af a s Z M=.ok (x::xs) M:=by
 unfold af
 rw [ea]
 show (s Z M).bind _=_
 rw [es]
 rfl
theorem qs {xs:List D}(es:s Z M=.ok xs M)(hl:xs.length<=100):bB false s Z M=.ok (.lst xs) M:=by
 unfold bB
 rw [es]
 show (if xs.length<=sz then (if false=true then _ else Res.ok (D.lst xs) M) else .bad)=_
 rw [if_pos (aM (by omega))]
 rfl
theorem lj {i:Nat}{x:D}(e:a Z M=.ok x M):aU (.one i) a Z M=.ok (.next (Z.set i (some x))) M:=by
 unfold aU
 rw [e]
 rfl
theorem bA {j:Nat}{x:D}(h:Z[j]?.getD none=some x):ag j Z M=.ok x M:=by
 unfold ag
 rw [h]
 rfl
theorem dU {f:Nat}{c:Call}{xs:List D}(e:s Z M=.ok xs M):az f c s Z M=c f xs M:=by
 unfold az;rw [e];rfl
theorem j7 {f i:Nat}{c:Call}{x:D}{r:Res D}(h:Z[i]?.getD none=some x)(e:c f [x] M=r):az f c (af (ag i) au) Z M=r:=(dU (aZ (bA h) rfl)).trans e
theorem hU {f i j:Nat}{c:Call}{x y:D}{r:Res D}(h:Z[i]?.getD none=some x)(h2:Z[j]?.getD none=some y)(e:c f [x,y] M=r):az f c (af (ag i) (af (ag j) au)) Z M=r:=(dU (aZ (bA h) (aZ (bA h2) rfl))).trans e
theorem C5 {f i j l:Nat}{c:Call}{x y z:D}{r:Res D}(h:Z[i]?.getD none=some x)(h2:Z[j]?.getD none=some y)(h3:Z[l]?.getD none=some z)(e:c f [x,y,z] M=r):az f c (af (ag i) (af (ag j) (af (ag l) au))) Z M=r:=(dU (aZ (bA h) (aZ (bA h2) (aZ (bA h3) rfl)))).trans e
theorem dY {i:Nat}(h:aj (a Z M) k)(hk:∀x M',k x M'->aj (rest (Z.set i (some x)) M') kf):aj (ai (aU (.one i) a) rest Z M) kf:=by
 obtain ⟨x,M',e,q⟩:=oj.mp h
 simp only [aR]
 unfold aU
 rw [e]
 exact hk x M' q
theorem iO (ht:t Z M=.ok true M)(h:aj (A Z M) (mn rest kf)):aj (ai (bf t A aw) rest Z M) kf:=by
 simp only [aR,kF]
 rw [ht]
 exact h
theorem dZ {b:Bool}(ht:t Z M=.ok b M)(h1:b=true->aj (A Z M) (mn rest kf))(h2:b=false->aj (rest Z M) kf):aj (ai (bf t A aw) rest Z M) kf:=by
 cases b with
 |true=>exact iO ht (h1 rfl)
 |false=>exact aI ht (h2 rfl)
theorem iL {b:Bool}(h:t Z M=.ok b M):bZ t Z M=.ok (!b) M:=by
 unfold bZ
 rw [h]
 rfl
theorem fK {b:Bool}(h:a Z M=.ok (.bl b) M):aL a Z M=.ok b M:=by
 unfold aL
 rw [h]
 rfl
theorem Jn {x y:Bool}(h1:t Z M=.ok x M)(h2:u Z M=.ok y M):eK t u Z M=.ok (x||y) M:=by
 unfold eK
 rw [h1]
 cases x with
 |true=>rfl
 |false=>exact h2
theorem E3 {x y:Bool}(h1:t Z M=.ok x M)(h2:u Z M=.ok y M):je t u Z M=.ok (x&&y) M:=by
 unfold je
 rw [h1]
 cases x with
 |true=>exact h2
 |false=>rfl
theorem i7 {x y:Bool}(h1:a Z M=.ok (.bl x) M)(h2:x=true->b Z M=.ok (.bl y) M):eY a b Z M=.ok (.bl (x&&y)) M:=by
 unfold eY
 rw [h1]
 cases x with
 |true=>exact h2 rfl
 |false=>rfl
theorem js {k:Bool}{x:D}(ht:t Z M=.ok k M)(h1:k=true->a Z M=.ok x M)(h2:k=false->b Z M=.ok x M):gV t a b Z M=.ok x M:=by
 unfold gV
 rw [ht]
 cases k with
 |true=>exact h1 rfl
 |false=>exact h2 rfl
theorem xU {j:Nat}{ds:List D}(e:Z[j]?.getD none=some (.tup ds)):bG .len (af (ag j) au) Z M=.ok (nD ds.length) M:=by
 unfold bG
 rw [aZ (bA e) rfl]
 rfl
theorem Ju {i j:Int}(h1:a Z M=.ok (.int i) M)(h2:b Z M=.ok (.int j) M):aL (a7 .ne a b) Z M=.ok (!(i==j)) M:=by
 refine fK ?_
 unfold a7
 rw [h1]
 show (b Z M).bind _=_
 rw [h2]
 rfl
theorem Ir {l h i:Int}{c:GE}(h1:a Z M=.ok (.int l) M)(h2:b Z M=.ok (.int i) M)(h3:c Z M=.ok (.int h) M):lN .le .le a b c Z M=.ok (.bl (decide (l<=i)&&decide (i<=h))) M:=by
 unfold lN
 rw [h1]
 show (b Z M).bind _=_
 rw [h2]
 show (if decide (l<=i)=true then _ else _)=_
 cases decide (l<=i) with
 | true =>
   show (c Z M).bind _=_
   rw [h3]
   rfl
 |false=>rfl
end
theorem Eo {t:GT}{A rest:GS}{Z:Env}{M:Mem}{k:Fl->Mem->Prop}{R:Mem->Prop}(ht:aj (t Z M) fun b M'=>b=false/\R M')(h:∀M',R M'->aj (rest Z M') k):aj (ai (bf t A aw) rest Z M) k:=by
 simp only [aR,kF]
 obtain ⟨b,M',e,rfl,r⟩:=oj.mp ht
 rw [e]
 exact h M' r
end LD
namespace LD
open PySem
def Th:Nat->Nat->D->Prop
 |_,_,.non=>True
 |_,_,.bl _=>True
 |_,_,.int _=>True
 |_,L,.str x=>x.cps.size<=L/\x.cps.all (· < 0x110000)=true
 |n+1,L,.tup ds=>ds.length<=L/\∀d∈ds,Th n L d
 |n+1,L,.lst ds=>ds.length<=L/\∀d∈ds,Th n L d
 |_,_,_=>False
theorem Th.mono:∀{n n' L L':Nat}{d:D},Th n L d->n<=n'->L<=L'->Th n' L' d
 |n,n',L,L',.non,_,_,_=>by cases n'<;>trivial
 |n,n',L,L',.bl _,_,_,_=>by cases n'<;>trivial
 |n,n',L,L',.int _,_,_,_=>by cases n'<;>trivial
 | n, n', L, L', .str x, h, _, l => by
   have h:x.cps.size<=L/\x.cps.all (· < 0x110000)=true:=by cases n<;>exact h
   have:x.cps.size<=L'/\x.cps.all (· < 0x110000)=true:=⟨tqh h.1 l,h.2⟩
   cases n'<;>exact this
 |n+1,n'+1,L,L',.tup ds,h,a,l=>⟨tqh h.1 l,fun d hd=>Th.mono (h.2 d hd) (Nat.le_of_succ_le_succ a) l⟩
 |n+1,n'+1,L,L',.lst ds,h,a,l=>⟨tqh h.1 l,fun d hd=>Th.mono (h.2 d hd) (Nat.le_of_succ_le_succ a) l⟩
 |n+1,0,L,L',.tup ds,h,a,l=>by omega
 |n+1,0,L,L',.lst ds,h,a,l=>by omega
 |0,n',L,L',.tup ds,h,a,l=>h.elim
 |0,n',L,L',.lst ds,h,a,l=>h.elim
 |n,n',L,L',.frz _,h,_,_=>by cases n<;>exact h.elim
 |n,n',L,L',.cell _,h,_,_=>by cases n<;>exact h.elim
 |n,n',L,L',.fn _,h,_,_=>by cases n<;>exact h.elim
 |n,n',L,L',.exc _ _,h,_,_=>by cases n<;>exact h.elim
theorem Th.pure:∀{n L:Nat}{d:D},Th n L d->aG n d=true
 |n,L,.non,_=>by cases n<;>rfl
 |n,L,.bl _,_=>by cases n<;>rfl
 |n,L,.int _,_=>by cases n<;>rfl
 |n,L,.str x,h=>by cases n<;>exact h.2
 | n + 1, L, .tup ds, h => by
   show ds.all (aG n)=true
   rw [List.all_eq_true]
   exact fun d hd=>(h.2 d hd).pure
 | n + 1, L, .lst ds, h => by
   show ds.all (aG n)=true
   rw [List.all_eq_true]
   exact fun d hd=>(h.2 d hd).pure
 |0,L,.tup ds,h=>h.elim
 |0,L,.lst ds,h=>h.elim
 |n,L,.frz _,h=>by cases n<;>exact h.elim
 |n,L,.cell _,h=>by cases n<;>exact h.elim
 |n,L,.fn _,h=>by cases n<;>exact h.elim
 |n,L,.exc _ _,h=>by cases n<;>exact h.elim
theorem Th.view {n L:Nat}{d:D}{M:Mem}(h:Th n L d):view M d=d:=by
 cases d<;>first|rfl|(cases n<;>exact h.elim)
theorem Th.tup {n L:Nat}{ds:List D}(h:Th n L (.tup ds)):ds.length<=L/\∀d∈ds,Th n L d:=by
 cases n with
 |zero=>exact h.elim
 |succ n=>exact ⟨h.1,fun d hd=>(h.2 d hd).mono (Nat.le_succ n) (tqg L)⟩
def bc (lo hi:Int):D->Bool
 |.int i=>decide (lo<=i)&&decide (i<=hi)
 |_=>false
def fV (w:Nat):D->Bool
 |.tup ds=>ds.length==w
 |_=>false
def gR (w:Nat):D->Bool
 |.tup ds=>ds.length==w&&ds.all (bc 0 ((w:Int)-1))
 |_=>false
def jC (w:Nat):D->Bool
 |.tup ds=>ds.length==w&&ds.all (gR w)
 |_=>false
def lp (w p:Nat):List D->Bool
 |[a,t,c]=>bc 0 ((p:Int)-1) a&&(gR w t&&bc 1 3 c)
 |_=>false
def jz (w p:Nat):List D->Bool
 |[a,o,t,c]=>bc 0 ((p:Int)-1) a&&(bc 0 ((p:Int)-1) o&&(jC w t&&bc 1 3 c))
 |_=>false
def jY (w p:Nat):List D->Bool
 |[a,o,c]=>bc 0 ((p:Int)-1) a&&(bc 0 ((p:Int)-1) o&&bc 1 3 c)
 |_=>false
def nB (w p:Nat):List D->Bool
 |[a,x,c]=>bc 0 ((p:Int)-1) a&&(bc 0 ((w:Int)-1) x&&bc 1 3 c)
 |_=>false
def cR (w p:Nat)(s:Str)(ds:List D):Bool:=
 if s="turn" then lp w p ds else if s="join" then jz w p ds else if s="move" then jY w p ds else if s="put" then nB w p ds else false
def fg (w p:Nat):D->Bool
 |.tup (.str s::ds)=>cR w p s ds
 |_=>false
def fW:D->Bool
 |.tup ds=>decide (1<=ds.length)&&decide (ds.length<=6)
 |_=>false
def qv:D->List D
 |.tup ds=>ds
 |_=>[]
def eB:D->Nat
 |.int i=>i.toNat
 |_=>0
theorem oK {lo hi:Int}{d:D}(h:bc lo hi d=true)(h0:0<=lo):d=nD (eB d)/\lo<=(eB d:Int)/\(eB d:Int)<=hi:=by
 cases d with
 | int i =>
   simp [bc] at h
   refine ⟨?_,?_⟩
   ·show D.int i=D.int ((i.toNat:Nat):Int)
    rw [Int.toNat_of_nonneg (by omega)]
   ·show lo<=((i.toNat:Nat):Int)/\((i.toNat:Nat):Int)<=hi
    rw [Int.toNat_of_nonneg (by omega)]
    exact h
 |_=>cases h
def fc:D->Bool
 |.tup [a,b,c]=>bc 2 4 a&&(bc 1 2 b&&(fW c&&(qv c).all (fg (eB a) (eB b))))
 |_=>false
theorem vg {d:D}(h:fV 3 d=false):fc d=false:=by
 match d,h with
 |.tup [a,b,c],h=>cases h
 |.tup [],_=>rfl
 |.tup [_],_=>rfl
 |.tup [_,_],_=>rfl
 |.tup (_::_::_::_::r),_=>rfl
 |.non,_=>rfl
 |.bl _,_=>rfl
 |.int _,_=>rfl
 |.str _,_=>rfl
 |.lst _,_=>rfl
 |.frz _,_=>rfl
 |.cell _,_=>rfl
 |.fn _,_=>rfl
 |.exc _ _,_=>rfl
structure yw (P:Nat->Option Df):Prop where
 is_between:P 0=some ⟨3,3,fx⟩
 is_word:P 1=some ⟨2,2,jO⟩
 is_place:P 2=some ⟨2,2,iX⟩
 is_cost:P 3=some ⟨1,1,jP⟩
 is_tuple_of:P 4=some ⟨2,2,fN⟩
 is_table:P 5=some ⟨2,2,iW⟩
 is_double_table:P 6=some ⟨2,2,d5⟩
 is_turn:P 7=some ⟨3,6,gx⟩
 is_join:P 8=some ⟨3,7,gz⟩
 is_move:P 9=some ⟨3,6,gy⟩
 is_put:P 10=some ⟨3,6,ik⟩
 is_deed:P 11=some ⟨3,5,gA⟩
 is_machine:P 12=some ⟨1,4,fw⟩
theorem oW (f:D->Bool):∀ds:List D,boolsOf (ds.map fun d=>.bl (f d))=some (ds.map f)
 |[]=>rfl
 |d::r=>by simp [boolsOf,oW f r]
theorem all_eq {w:GW}{ge:GE}{Z:Env}{M:Mem}{ds:List D}(f:D->Bool)(hw:aj (w Z M) fun wk M'=>M'=M/\wk M=some ds)(hz:ds.length<=sz)(he:∀d∈ds,ge (some d::Z) M=.ok (.bl (f d)) M) :
 bG .all (af (cG false 1 (.one 0) w (cF ge)) au) Z M=.ok (.bl (ds.all f)) M:=by
 refine aE ?_
 simp only [ff,bw,lg,bN]
 refine bo hw fun wk M' ⟨e1,e2⟩=>?_
 subst e1
 refine nV (fun d=>.bl (f d)) hz e2 (fun d hd=>⟨some d::Z,rfl,he d hd⟩) ?_
 simp only [cq,List.length_map,E4]
 refine ⟨hz,_,oW f ds,?_,trivial⟩
 congr 1
 rw [List.all_map];rfl
theorem vk {k L:Nat}{x:D}(hx:Th k L x){t:Ty}(h:((¬ ∃s,x=.str s)/\t=.str\/(¬ ∃s,x=.tup s)/\t=.tuple)):bX t x=some false:=by
 rcases h with ⟨h,rfl⟩|⟨h,rfl⟩<;>cases x<;>first|rfl|exact absurd ⟨_,rfl⟩ h|(cases k<;>exact hx.elim)
section
variable {P:Nat->Option Df}(h:yw P){M:Mem}{k L:Nat}{d:D}
include h
theorem j8 (n:Nat)(hd:Th k L d)(lo hi:Int):av P (n+1) 0 [d,.int lo,.int hi] M=.ok (.bl (bc lo hi d)) M:=by
 cases d with
 | int t =>
   refine aE (aK h.is_between rfl ?_)
   simp [fx,bX,bc]
   by_cases h1:lo<=t<;>simp [h1]<;>omega
 |fn j=>cases k<;>exact hd.elim
 |exc y p=>cases k<;>exact hd.elim
 |_=>exact aE (aK h.is_between rfl (c8 rfl))
theorem uy (n:Nat){w:Nat}(hd:Th k L d):av P (n+2) 1 [nD w,d] M=.ok (.bl (bc 0 ((w:Int)-1) d)) M:=by
 refine aE (aK h.is_word rfl ?_)
 simp [jO,j8 h _ hd]
theorem ip (n:Nat){w:Nat}(hd:Th k L d):av P (n+2) 2 [nD w,d] M=.ok (.bl (bc 0 ((w:Int)-1) d)) M:=by
 refine aE (aK h.is_place rfl ?_)
 simp [iX,j8 h _ hd]
theorem mB (n:Nat)(hd:Th k L d):av P (n+2) 3 [d] M=.ok (.bl (bc 1 3 d)) M:=by
 refine aE (aK h.is_cost rfl ?_)
 simp [jP,j8 h _ hd]
theorem oh (n:Nat){w:Nat}(hd:Th k L d):av P (n+1) 4 [nD w,d] M=.ok (.bl (fV w d)) M:=by
 refine aE (aK h.is_tuple_of rfl ?_)
 cases d with
 |fn j=>cases k<;>exact hd.elim
 |exc y p=>cases k<;>exact hd.elim
 | tup ds =>
   simp [fN,bX,fV]
   by_cases e:ds.length=w
   ·simp [e]
   ·have:¬ ((ds.length:Int)=(w:Int)):=by omega
    simp [e,this]
 |_=>exact c8 rfl
theorem v7 (n:Nat){w:Nat}(hd:Th k L d)(hL:L<=100):av P (n+3) 5 [nD w,d] M=.ok (.bl (gR w d)) M:=by
 refine aE (aK h.is_table rfl ?_)
 have e:=oh h (n+1) (w:=w) (M:=M) hd
 simp only [iW,aR,cB,CW,fu,bw,bN,bt,List.map_cons,List.map_nil,List.cons_append,List.nil_append,List.getElem?_cons_zero,List.getElem?_cons_succ,Option.getD_some,Option.some.injEq,exists_eq_left']
 rw [e]
 refine ⟨_,rfl,?_⟩
 cases d with
 | tup ds =>
   have ht:=hd.tup
   by_cases el:ds.length=w
   ·have:fV w (.tup ds)=true:=by simp [fV,el]
    rw [this,if_pos rfl,all_eq (ds:=ds) (bc 0 ((w:Int)-1)) (by simp;exact ⟨rfl,rfl⟩) (aM (by omega)) (fun d hd=>aE (by simp [uy h n (ht.2 d hd)]))]
    exact ⟨by simp [gR,el],rfl⟩
   ·have:fV w (.tup ds)=false:=by simp [fV,el]
    rw [this,if_neg (by simp)]
    exact ⟨by simp [gR,el],rfl⟩
 |_=>exact ⟨rfl,rfl⟩
theorem A2 (n:Nat){w:Nat}(hd:Th k L d)(hL:L<=100):av P (n+4) 6 [nD w,d] M=.ok (.bl (jC w d)) M:=by
 refine aE (aK h.is_double_table rfl ?_)
 have e:=oh h (n+2) (w:=w) (M:=M) hd
 simp only [d5,aR,cB,CW,fu,bw,bN,bt,List.map_cons,List.map_nil,List.cons_append,List.nil_append,List.getElem?_cons_zero,List.getElem?_cons_succ,Option.getD_some,Option.some.injEq,exists_eq_left']
 rw [e]
 refine ⟨_,rfl,?_⟩
 cases d with
 | tup ds =>
   have ht:=hd.tup
   by_cases el:ds.length=w
   ·have:fV w (.tup ds)=true:=by simp [fV,el]
    rw [this,if_pos rfl,all_eq (ds:=ds) (gR w) (by simp;exact ⟨rfl,rfl⟩) (aM (by omega)) (fun d hd=>aE (by simp [v7 h n (ht.2 d hd) hL]))]
    exact ⟨by simp [jC,el],rfl⟩
   ·have:fV w (.tup ds)=false:=by simp [fV,el]
    rw [this,if_neg (by simp)]
    exact ⟨by simp [jC,el],rfl⟩
 |_=>exact ⟨rfl,rfl⟩
omit h in
theorem qG {j c:Nat}{ds:List D}{Z:Env}(e:Z[j]?.getD none=some (.tup ds))(hc:ds.length≠c):(aL (a7 .ne (bG .len (af (ag j) au)) (gC (.int (c:Int)))):GT) Z M=.ok true M:=by
 rw [Ju (xU e) rfl,beq_eq_false_iff_ne.mpr (by omega)]
 rfl
theorem AX (n:Nat){w p:Nat}{ds:List D}(hd:∀d∈ds,Th k L d)(hL:L<=100)(hl:ds.length<=100):av P (n+4) 7 [nD w,nD p,.tup ds] M=.ok (.bl (lp w p ds)) M:=by
 refine aE (aK h.is_turn rfl ?_)
 match ds,hd,hl with
 | [a, t, c], hd, _ =>
   show aj (gx (av P (n+3)) [some (nD w),some (nD p),some (.tup [a,t,c]),none,none,none] M) _
   unfold gx
   refine aI rfl (cv rfl ?_)
   show aj _ _
   exact cV (i7 (hU rfl rfl (ip h (n+1) (hd a (.head _)))) fun _=>i7 (hU rfl rfl (v7 h n (hd t (.tail _ (.head _))) hL)) fun _=>j7 rfl (mB h (n+1) (hd c (.tail _ (.tail _ (.head _)))))) ⟨rfl,rfl⟩
 |[],_,_=>exact c8 rfl
 |[_],_,_=>exact c8 rfl
 |[_,_],_,_=>exact c8 rfl
 | a :: b :: c :: d :: r, _, _ =>
   show aj (gx (av P (n+3)) [some (nD w),some (nD p),some (.tup (a::b::c::d::r)),none,none,none] M) _
   exact bM (qG (c:=3) (ds:=a::b::c::d::r) rfl (fun z=>by simp at z)) rfl ⟨rfl,rfl⟩
theorem A1 (n:Nat){w p:Nat}{ds:List D}(hd:∀d∈ds,Th k L d)(hL:L<=100)(hl:ds.length<=100):av P (n+5) 8 [nD w,nD p,.tup ds] M=.ok (.bl (jz w p ds)) M:=by
 refine aE (aK h.is_join rfl ?_)
 match ds,hd,hl with
 | [a, o, t, c], hd, _ =>
   show aj (gz (av P (n+4)) [some (nD w),some (nD p),some (.tup [a,o,t,c]),none,none,none,none] M) _
   unfold gz
   refine aI rfl (cv rfl ?_)
   refine dZ (Jn (iL (fK (hU rfl rfl (ip h (n+2) (hd a (.head _)))))) (iL (fK (hU rfl rfl (ip h (n+2) (hd o (.tail _ (.head _)))))))) (fun e=>?_) fun e=>?_
   ·refine cV (v:=.bl false) rfl ⟨?_,rfl⟩
    show D.bl false=.bl (_&&(_&&_))
    cases q:bc 0 ((p:Int)-1) a with
    |false=>rfl
    | true =>
      rw [q] at e
      cases q2:bc 0 ((p:Int)-1) o with
      |false=>rfl
      |true=>rw [q2] at e;cases e
   ·refine cV (i7 (hU rfl rfl (A2 h n (hd t (.tail _ (.tail _ (.head _)))) hL)) fun _=>j7 rfl (mB h (n+2) (hd c (.tail _ (.tail _ (.tail _ (.head _))))))) ⟨?_,rfl⟩
    show _=D.bl (bc 0 ((p:Int)-1) a&&(bc 0 ((p:Int)-1) o&&_))
    cases q:bc 0 ((p:Int)-1) a with
    |false=>rw [q] at e;cases e
    | true =>
      rw [q] at e
      cases q2:bc 0 ((p:Int)-1) o with
      |false=>rw [q2] at e;cases e
      |true=>rfl
 |[],_,_=>exact c8 rfl
 |[_],_,_=>exact c8 rfl
 |[_,_],_,_=>exact c8 rfl
 |[_,_,_],_,_=>exact c8 rfl
 | a :: b :: c :: d :: e :: r, _, _ =>
   show aj (gz (av P (n+4)) [some (nD w),some (nD p),some (.tup (a::b::c::d::e::r)),none,none,none,none] M) _
   exact bM (qG (c:=4) (ds:=a::b::c::d::e::r) rfl (fun z=>by simp at z)) rfl ⟨rfl,rfl⟩
theorem A0 (n:Nat){w p:Nat}{ds:List D}(hd:∀d∈ds,Th k L d)(hL:L<=100)(hl:ds.length<=100):av P (n+3) 9 [nD w,nD p,.tup ds] M=.ok (.bl (jY w p ds)) M:=by
 refine aE (aK h.is_move rfl ?_)
 match ds,hd,hl with
 | [a, t, c], hd, _ =>
   show aj (gy (av P (n+2)) [some (nD w),some (nD p),some (.tup [a,t,c]),none,none,none] M) _
   unfold gy
   refine aI rfl (cv rfl ?_)
   show aj _ _
   exact cV (i7 (hU rfl rfl (ip h n (hd a (.head _)))) fun _=>i7 (hU rfl rfl (ip h n (hd t (.tail _ (.head _))))) fun _=>j7 rfl (mB h n (hd c (.tail _ (.tail _ (.head _)))))) ⟨rfl,rfl⟩
 |[],_,_=>exact c8 rfl
 |[_],_,_=>exact c8 rfl
 |[_,_],_,_=>exact c8 rfl
 | a :: b :: c :: d :: r, _, _ =>
   show aj (gy (av P (n+2)) [some (nD w),some (nD p),some (.tup (a::b::c::d::r)),none,none,none] M) _
   exact bM (qG (c:=3) (ds:=a::b::c::d::r) rfl (fun z=>by simp at z)) rfl ⟨rfl,rfl⟩
theorem Dn (n:Nat){w p:Nat}{ds:List D}(hd:∀d∈ds,Th k L d)(hL:L<=100)(hl:ds.length<=100):av P (n+3) 10 [nD w,nD p,.tup ds] M=.ok (.bl (nB w p ds)) M:=by
 refine aE (aK h.is_put rfl ?_)
 match ds,hd,hl with
 | [a, t, c], hd, _ =>
   show aj (ik (av P (n+2)) [some (nD w),some (nD p),some (.tup [a,t,c]),none,none,none] M) _
   unfold ik
   refine aI rfl (cv rfl ?_)
   show aj _ _
   exact cV (i7 (hU rfl rfl (ip h n (hd a (.head _)))) fun _=>i7 (hU rfl rfl (uy h n (hd t (.tail _ (.head _))))) fun _=>j7 rfl (mB h n (hd c (.tail _ (.tail _ (.head _)))))) ⟨rfl,rfl⟩
 |[],_,_=>exact c8 rfl
 |[_],_,_=>exact c8 rfl
 |[_,_],_,_=>exact c8 rfl
 | a :: b :: c :: d :: r, _, _ =>
   show aj (ik (av P (n+2)) [some (nD w),some (nD p),some (.tup (a::b::c::d::r)),none,none,none] M) _
   exact bM (qG (c:=3) (ds:=a::b::c::d::r) rfl (fun z=>by simp at z)) rfl ⟨rfl,rfl⟩
omit h in
theorem nI {w p:Nat}{ds:List D}:cR w p "turn" ds=lp w p ds:=by unfold cR;rw [if_pos rfl]
omit h in
theorem nH {w p:Nat}{ds:List D}:cR w p "join" ds=jz w p ds:=by unfold cR;rw [if_neg (by decide +kernel),if_pos rfl]
omit h in
theorem nG {w p:Nat}{ds:List D}:cR w p "move" ds=jY w p ds:=by unfold cR;rw [if_neg (by decide +kernel),if_neg (by decide +kernel),if_pos rfl]
omit h in
theorem nF {w p:Nat}{ds:List D}:cR w p "put" ds=nB w p ds:=by unfold cR;rw [if_neg (by decide +kernel),if_neg (by decide +kernel),if_neg (by decide +kernel),if_pos rfl]
omit h in
theorem uT {w p:Nat}{ds:List D}{s:Str}(e1:¬ s="turn")(e2:¬ s="join")(e3:¬ s="move")(e4:¬ s="put"):cR w p s ds=false:=by unfold cR;rw [if_neg e1,if_neg e2,if_neg e3,if_neg e4]
omit h in
theorem xb {s:Str}(e1:¬ s="turn")(e2:¬ s="join")(e3:¬ s="move")(e4:¬ s="put"):dA.lookup s=none:=by
 unfold dA
 simp only [List.lookup,beq_eq_false_iff_ne.mpr e1,beq_eq_false_iff_ne.mpr e2,beq_eq_false_iff_ne.mpr e3,beq_eq_false_iff_ne.mpr e4]
theorem oC (n:Nat){w p f:Nat}{s:Str}{ds:List D}{v:Bool}(lk:dA.lookup s=some f)(q:av P (n+5) f [nD w,nD p,.tup ds] M=.ok (.bl v) M):av P (n+6) 11 [nD w,nD p,.tup (.str s::ds)] M=.ok (.bl v) M:=by
 refine aE (aK h.is_deed rfl ?_)
 simp [-List.lookup_isSome_iff,gA,bX,bV,lk,eG,aV,cw,cut,q]
theorem Cd (n:Nat){w p:Nat}{s:Str}{ds:List D}(lk:dA.lookup s=none):av P (n+6) 11 [nD w,nD p,.tup (.str s::ds)] M=.ok (.bl false) M:=by
 refine aE (aK h.is_deed rfl ?_)
 have e:(dA.lookup s).isSome=false:=by rw [lk];rfl
 simp [-List.lookup_isSome_iff,-List.lookup_eq_none_iff,-Option.isSome_eq_false_iff,gA,bX,bV,e]
 exact lk
theorem A4 (n:Nat){w p:Nat}(hd:Th k L d)(hL:L<=100):av P (n+6) 11 [nD w,nD p,d] M=.ok (.bl (fg w p d)) M:=by
 cases d with
 |fn j=>cases k<;>exact hd.elim
 |exc y p=>cases k<;>exact hd.elim
 | tup xs =>
   have ht:=hd.tup
   cases xs with
   |nil=>exact aE (aK h.is_deed rfl (c8 rfl))
   | cons x ds =>
     have hx:=ht.2 x List.mem_cons_self
     have hds:∀d∈ds,Th k L d:=fun d hd=>ht.2 d (List.mem_cons_of_mem _ hd)
     have hl:ds.length<=100:=by have:=ht.1;simp at this;omega
     by_cases hs:∃s,x=.str s
     ·obtain ⟨s,rfl⟩:=hs
      show _=Res.ok (D.bl (cR w p s ds)) M
      by_cases e1:s="turn"
      ·subst e1
       rw [nI];exact oC h n LH (AX h (n+1) hds hL hl)
      by_cases e2:s="join"
      ·subst e2
       rw [nH];exact oC h n LG (A1 h n hds hL hl)
      by_cases e3:s="move"
      ·subst e3
       rw [nG];exact oC h n LF (A0 h (n+2) hds hL hl)
      by_cases e4:s="put"
      ·subst e4
       rw [nF];exact oC h n LC (Dn h (n+2) hds hL hl)
      rw [uT e1 e2 e3 e4]
      exact Cd h n (xb e1 e2 e3 e4)
     ·have e1:fg w p (.tup (x::ds))=false:=by cases x<;>first|rfl|exact absurd ⟨_,rfl⟩ hs
      have e2:=vk hx (t:=.str) (.inl ⟨hs,rfl⟩)
      rw [e1]
      refine aE (aK h.is_deed rfl ?_)
      have e3:bX .tuple (.tup (x::ds))=some true:=rfl
      simp [gA,bV,e2,e3]
 |_=>exact aE (aK h.is_deed rfl (c8 rfl))
theorem BL (n:Nat)(hd:Th k L d)(hn:fV 3 d=false):av P (n+7) 12 [d] M=.ok (.bl false) M:=by
 refine aE (aK h.is_machine rfl ?_)
 have e:av P (n+6) 4 [.int 3,d] M=.ok (.bl (fV 3 d)) M:=oh h (n+5) (w:=3) (M:=M) hd
 rw [hn] at e
 simp [fw,e]
theorem Jw (n:Nat){a b c:D}(hd:Th k L (.tup [a,b,c]))(hL:L<=100):av P (n+7) 12 [.tup [a,b,c]] M=.ok (.bl (fc (.tup [a,b,c]))) M:=by
 refine aE (aK h.is_machine rfl ?_)
 have ht:=hd.tup.2
 simp only [List.mem_cons,List.not_mem_nil,or_false,forall_eq_or_imp,forall_eq] at ht
 have e:av P (n+6) 4 [.int 3,.tup [a,b,c]] M=.ok (.bl true) M:=oh h (n+5) (w:=3) (M:=M) hd
 have b1:=j8 h (n+5) (M:=M) ht.1 2 4
 have b2:=j8 h (n+5) (M:=M) ht.2.1 1 2
 simp only [fw,aR,qc,cB,eJ,uk,kF,wZ,jw,AS,Fy,dM,fu,bw,bN,bt,vn,List.map_cons,List.map_nil,List.cons_append,List.nil_append,List.getElem?_cons_zero,List.getElem?_cons_succ,Option.getD_some,Option.some.injEq,exists_eq_left']
 rw [e]
 refine ⟨_,rfl,?_⟩
 rw [if_neg (by simp)]
 refine ⟨_,_,rfl,rfl,_,rfl,?_⟩
 rw [b1]
 refine ⟨_,rfl,?_⟩
 by_cases c1:bc 2 4 a=false
 ·rw [c1,if_pos (by decide),if_pos trivial]
  exact ⟨by simp [fc,c1],rfl⟩
 have c1:bc 2 4 a=true:=by simpa using c1
 rw [c1,if_neg (by simp)]
 refine ⟨_,rfl,?_⟩
 rw [b2]
 refine ⟨_,rfl,?_⟩
 by_cases c2:bc 1 2 b=false
 ·rw [c2,if_pos (by decide)]
  exact ⟨by simp [fc,c2],rfl⟩
 have c2:bc 1 2 b=true:=by simpa using c2
 rw [c2,if_neg (by simp)]
 refine ⟨_,rfl,?_⟩
 obtain ⟨ea,_,_⟩:=oK c1 (by decide)
 obtain ⟨eb,_,_⟩:=oK c2 (by decide)
 cases c with
 |fn j=>exact absurd ht.2.2 (by cases k<;>exact id)
 |exc y p=>exact absurd ht.2.2 (by cases k<;>exact id)
 | tup ds =>
   have hc:=ht.2.2.tup
   refine ⟨true,rfl,true,rfl,?_⟩
   rw [if_neg (by simp)]
   simp only [JH,dM]
   refine ff.mpr (bw.mpr (bt.mpr ⟨_,rfl,bN.mpr (oo.mpr ⟨_,rfl,?_⟩)⟩))
   by_cases l1:(1:Int)<=(ds.length:Int)
   ·rw [decide_eq_true l1,if_pos (by decide)]
    refine ⟨_,rfl,_,rfl,?_⟩
    by_cases l6:(ds.length:Int)<=6
    ·rw [decide_eq_true l6,if_neg (by simp)]
     have lb:fW (.tup ds)=true:=by simp [fW];omega
     rw [all_eq (ds:=ds) (fg (eB a) (eB b)) (by simp;exact ⟨rfl,rfl⟩) (aM (by omega)) (fun d hd=>aE (by
      have q:=A4 h n (w:=eB a) (p:=eB b) (M:=M) (hc.2 d hd) hL
      rw [<- ea,<- eb] at q
      simp [q]))]
     refine ⟨?_,rfl⟩
     show D.bl (ds.all (fg (eB a) (eB b)))=D.bl (bc 2 4 a&&(bc 1 2 b&&(fW (.tup ds)&&ds.all (fg (eB a) (eB b)))))
     rw [c1,c2,lb];simp
    ·rw [decide_eq_false l6,if_pos (by decide)]
     refine ⟨?_,rfl⟩
     have lb:fW (.tup ds)=false:=by simp [fW];omega
     simp [fc,lb]
   ·rw [decide_eq_false l1,if_neg (by simp)]
    refine ⟨_,rfl,?_⟩
    rw [if_pos (by decide)]
    refine ⟨?_,rfl⟩
    have lb:fW (.tup ds)=false:=by simp [fW];omega
    simp [fc,lb]
 | _ =>
   refine ⟨false,rfl,false,rfl,?_⟩
   rw [if_pos (by decide)]
   exact ⟨by simp [fc,fW],rfl⟩
theorem pz (n:Nat)(hd:Th k L d)(hL:L<=100):av P (n+7) 12 [d] M=.ok (.bl (fc d)) M:=by
 by_cases hn:fV 3 d=false
 ·rw [BL h n hd hn,vg hn]
 ·match d,hd,hn with
  |.tup [a,b,c],hd,_=>exact Jw h n hd hL
  |.tup [],_,hn=>exact absurd rfl hn
  |.tup [_],_,hn=>exact absurd rfl hn
  |.tup [_,_],_,hn=>exact absurd rfl hn
  |.tup (_::_::_::_::r),_,hn=>exact absurd (by simp [fV]) hn
  |.non,_,hn=>exact absurd rfl hn
  |.bl _,_,hn=>exact absurd rfl hn
  |.int _,_,hn=>exact absurd rfl hn
  |.str _,_,hn=>exact absurd rfl hn
  |.lst _,_,hn=>exact absurd rfl hn
  |.frz _,_,hn=>exact absurd rfl hn
  |.cell _,_,hn=>exact absurd rfl hn
  |.fn _,_,hn=>exact absurd rfl hn
  |.exc _ _,_,hn=>exact absurd rfl hn
omit h in
theorem dW {lo hi:Int}{n:Nat}(h1:lo<=(n:Int))(h2:(n:Int)<=hi):bc lo hi (nD n)=true:=by simp [bc];omega
omit h in
theorem uo {w:Nat}{t:List Nat}(ht:hZ w t):gR w (bg t)=true:=by
 have e:(t.map nD).all (bc 0 ((w:Int)-1))=true:=by
  rw [List.all_eq_true]
  intro x hx
  obtain ⟨i,hi,rfl⟩:=List.mem_map.mp hx
  have:=ht.2 i hi
  exact dW (by omega) (by omega)
 show ((t.map nD).length==w&&(t.map nD).all (bc 0 ((w:Int)-1)))=true
 rw [e,List.length_map,ht.1];simp
omit h in
theorem Ae {w p:Nat}{d:bq}(hd:cT w p d):fg w p d.d=true:=by
 cases d with
 | turn a t c =>
   obtain ⟨h1,h2,h3⟩:=hd
   unfold fQ at h3
   show cR w p "turn" _=true
   rw [nI]
   simp only [lp]
   rw [dW (by omega) (by omega),uo h2,dW (by omega) (by omega)];rfl
 | join a o t c =>
   obtain ⟨h1,h2,h3,h4⟩:=hd
   unfold fQ at h4
   show cR w p "join" _=true
   rw [nH]
   simp only [jz]
   have e:jC w (.tup (t.map bg))=true:=by
    have e:(t.map bg).all (gR w)=true:=by
     rw [List.all_eq_true]
     intro x hx
     obtain ⟨i,hi,rfl⟩:=List.mem_map.mp hx
     exact uo (h3.2 i hi)
    show ((t.map bg).length==w&&(t.map bg).all (gR w))=true
    rw [e,List.length_map,h3.1];simp
   rw [dW (by omega) (by omega),dW (by omega) (by omega),e,dW (by omega) (by omega)];rfl
 | move a o c =>
   obtain ⟨h1,h2,h3⟩:=hd
   unfold fQ at h3
   show cR w p "move" _=true
   rw [nG]
   simp only [jY]
   rw [dW (by omega) (by omega),dW (by omega) (by omega),dW (by omega) (by omega)];rfl
 | put a o c =>
   obtain ⟨h1,h2,h3⟩:=hd
   unfold fQ at h3
   show cR w p "put" _=true
   rw [nF]
   simp only [nB]
   rw [dW (by omega) (by omega),dW (by omega) (by omega),dW (by omega) (by omega)];rfl
omit h in
theorem lz {m:bu}(hm:cK m):fc m.d=true:=by
 have w2:=hm.w2
 have w4:=hm.w4
 have p1:=hm.p1
 have p2:=hm.p2
 have l1:=hm.d1
 have l6:=hm.d6
 have e:(m.deeds.map bq.d).all (fg m.words m.places)=true:=by
  rw [List.all_eq_true]
  intro x hx
  obtain ⟨i,hi,rfl⟩:=List.mem_map.mp hx
  exact Ae (hm.ok i hi)
 have e2:fW (.tup (m.deeds.map bq.d))=true:=by simp [fW];omega
 show (bc 2 4 (nD m.words)&&(bc 1 2 (nD m.places)&&(fW (.tup (m.deeds.map bq.d))&&(m.deeds.map bq.d).all (fg m.words m.places))))=true
 rw [dW (by omega) (by omega),dW (by omega) (by omega),e,e2];rfl
end
end LD
namespace LD
open PySem
def um:Nat->Nat->D->Bool
 |_,_,.non=>true
 |_,_,.bl _=>true
 |_,_,.int _=>true
 |_,L,.str x=>decide (x.cps.size<=L)&&x.cps.all (· < 0x110000)
 |n+1,L,.tup ds=>decide (ds.length<=L)&&ds.all (um n L)
 |n+1,L,.lst ds=>decide (ds.length<=L)&&ds.all (um n L)
 |_,_,_=>false
theorem pY:∀{n L:Nat}{d:D},um n L d=true->Th n L d
 |n,L,.non,_=>by cases n<;>trivial
 |n,L,.bl _,_=>by cases n<;>trivial
 |n,L,.int _,_=>by cases n<;>trivial
 | n, L, .str x, h => by
   have q:(decide (x.cps.size<=L)&&x.cps.all (· < 0x110000))=true:=by cases n<;>exact h
   simp only [Bool.and_eq_true,decide_eq_true_eq] at q
   have q:x.cps.size<=L/\x.cps.all (· < 0x110000)=true:=q
   cases n<;>exact q
 | n + 1, L, .tup ds, h => by
   have h:(decide (ds.length<=L)&&ds.all (um n L))=true:=h
   simp only [Bool.and_eq_true,decide_eq_true_eq] at h
   exact ⟨h.1,fun d hd=>pY (List.all_eq_true.mp h.2 d hd)⟩
 | n + 1, L, .lst ds, h => by
   have h:(decide (ds.length<=L)&&ds.all (um n L))=true:=h
   simp only [Bool.and_eq_true,decide_eq_true_eq] at h
   exact ⟨h.1,fun d hd=>pY (List.all_eq_true.mp h.2 d hd)⟩
 |0,L,.tup ds,h=>by cases h
 |0,L,.lst ds,h=>by cases h
 |n,L,.frz _,h=>by cases n<;>cases h
 |n,L,.cell _,h=>by cases n<;>cases h
 |n,L,.fn _,h=>by cases n<;>cases h
 |n,L,.exc _ _,h=>by cases n<;>cases h
theorem yP {w:Nat}{t:List Nat}(h:hZ w t)(w4:w<=4):Th 2 6 (bg t):=by
 refine ⟨by have:=h.1;simp;omega,fun d hd=>?_⟩
 obtain ⟨i,_,rfl⟩:=List.mem_map.mp hd
 trivial
theorem tV {n:Nat}{z:Str}(h:um 0 6 (.str z)=true):Th n 6 (.str z):=(pY h).mono (Nat.zero_le n) (tqg 6)
theorem iP {n:Nat}{i:Int}:Th n 6 (.int i):=by cases n<;>trivial
theorem ES {w p:Nat}{d:bq}(h:cT w p d)(w4:w<=4):Th 4 6 d.d:=by
 cases d with
 | turn a t c =>
   refine ⟨by simp,fun x hx=>?_⟩
   simp only [List.mem_cons,List.not_mem_nil,or_false] at hx
   rcases hx with rfl|rfl|rfl|rfl
   ·exact tV (by decide +kernel)
   ·exact iP
   ·exact (yP h.2.1 w4).mono (by decide) (by decide)
   ·exact iP
 | join a o t c =>
   refine ⟨by simp,fun x hx=>?_⟩
   simp only [List.mem_cons,List.not_mem_nil,or_false] at hx
   rcases hx with rfl|rfl|rfl|rfl|rfl
   ·exact tV (by decide +kernel)
   ·exact iP
   ·exact iP
   ·refine ⟨by have:=h.2.2.1.1;simp;omega,fun y hy=>?_⟩
    obtain ⟨z,hz,rfl⟩:=List.mem_map.mp hy
    exact yP (h.2.2.1.2 z hz) w4
   ·exact iP
 | move a o c =>
   refine ⟨by simp,fun x hx=>?_⟩
   simp only [List.mem_cons,List.not_mem_nil,or_false] at hx
   rcases hx with rfl|rfl|rfl|rfl
   ·exact tV (by decide +kernel)
   all_goals exact iP
 | put a o c =>
   refine ⟨by simp,fun x hx=>?_⟩
   simp only [List.mem_cons,List.not_mem_nil,or_false] at hx
   rcases hx with rfl|rfl|rfl|rfl
   ·exact tV (by decide +kernel)
   all_goals exact iP
theorem j9 {m:bu}(h:cK m):Th 6 6 m.d:=by
 refine ⟨by simp,fun x hx=>?_⟩
 simp only [List.mem_cons,List.not_mem_nil,or_false] at hx
 rcases hx with rfl|rfl|rfl
 ·exact iP
 ·exact iP
 ·refine ⟨by have:=h.d6;simpa using this,fun y hy=>?_⟩
  obtain ⟨z,hz,rfl⟩:=List.mem_map.mp hy
  exact ES (h.ok z hz) h.w4
theorem HasM0.q {P:Nat->Option Df}(h:HasM0 P):yw P:=⟨h.is_between,h.is_word,h.is_place,h.is_cost,h.is_tuple_of,h.is_table,h.is_double_table,h.is_turn,h.is_join,h.is_move,h.is_put,h.is_deed,h.is_machine⟩
end LD
namespace LD
open PySem
structure Sub (M M':Mem):Prop where
 len:M.length<=M'.length
 at':∀k,k<M.length->M'[k]?=M[k]?
theorem Sub.refl {M:Mem}:Sub M M:=⟨tqg _,fun _ _=>rfl⟩
theorem Sub.app {M X:Mem}:Sub M (M++X):=⟨by simp,fun k hk=>List.getElem?_append_left hk⟩
theorem Sub.get {k:Nat}{M M':Mem}{ds:List D}(h:Sub M M')(e:M[k]?=some ds):M'[k]?=some ds:=by rw [h.at' k (List.getElem?_eq_some_iff.mp e).1];exact e
theorem ym {tg:dv}{w:Walk}{ge:GE}{ds:List D}{ρ0:Env}{M:Mem}{acc0:List D}{kl:List D->Mem->Prop}(f:D->D)(hz:acc0.length+ds.length<=sz)(hw:w M=some ds)(hs:∀d∈ds,∃ρ1,cX tg d ρ0=some ρ1/\ge ρ1 M=.ok (f d) M)(hk:kl (acc0++ds.map f) M) :
 aj (dP (dR tg (cF ge) ρ0) w acc0 M) kl:=by
 refine ic (ds:=ds) (fun i acc M'=>M'=M/\acc=acc0++(ds.take i).map f) (fun i acc M' h=>by rw [h.1];exact hw) ⟨rfl,by simp⟩ ?_ ?_
 ·rintro i d acc M' hd ⟨rfl,rfl⟩
  obtain ⟨ρ1,e1,e2⟩:=hs d (List.mem_of_getElem? hd)
  have hi:i<ds.length:=(List.getElem?_eq_some_iff.mp hd).1
  simp only [dR,bL,kO,e1,C6]
  refine ⟨ρ1,rfl,?_⟩
  rw [e2]
  refine ⟨by simp;omega,rfl,?_⟩
  rw [List.take_succ,hd]
  simp
 ·rintro acc M' ⟨rfl,rfl⟩
  simpa using hk
theorem rR {α β:Type}(f:α->List β)(n:Nat):∀(ds:List α),(∀d∈ds,(f d).length<=n)->(ds.flatMap f).length<=ds.length*n
 |[],_=>by simp
 | d :: r, h => by
   have h1:=h d List.mem_cons_self
   have h2:=rR f n r fun d hd=>h d (List.mem_cons_of_mem _ hd)
   simp only [List.flatMap_cons,List.length_append,List.length_cons,Nat.succ_mul]
   omega
theorem yn {t u:dv}{w:Walk}{gw2:GW}{ge:GE}{ds:List D}{ρ0:Env}{M:Mem}{kl:List D->Mem->Prop}(its:D->List D)(f:D->D->D)(n:Nat)(hn:∀d∈ds,(its d).length<=n)(hz:ds.length*n<=sz)(hw:w M=some ds)
 (hs:∀d∈ds,∃ρ1,cX t d ρ0=some ρ1/\∃w2,gw2 ρ1 M=.ok w2 M/\w2 M=some (its d)/\∀e∈its d,∃ρ2,cX u e ρ1=some ρ2/\ge ρ2 M=.ok (f d e) M) (hk:kl (ds.flatMap fun d=>(its d).map (f d)) M) :
 aj (dP (dR t (rP u gw2 (cF ge)) ρ0) w [] M) kl:=by
 refine ic (ds:=ds) (fun i acc M'=>M'=M/\acc=(ds.take i).flatMap fun d=>(its d).map (f d)) (fun i acc M' h=>by rw [h.1];exact hw) ⟨rfl,by simp⟩ ?_ ?_
 ·rintro i d acc M' hd ⟨rfl,rfl⟩
  obtain ⟨ρ1,e1,w2,e2,e3,e4⟩:=hs d (List.mem_of_getElem? hd)
  have hi:i<ds.length:=(List.getElem?_eq_some_iff.mp hd).1
  simp only [dR,bL,kO,e1,rP]
  refine ⟨ρ1,rfl,?_⟩
  rw [e2]
  show aj (dP (dR u (cF ge) ρ1) w2 _ M') _
  have e5:(ds.take (i+1)).flatMap (fun d=>(its d).map (f d))=(ds.take i).flatMap (fun d=>(its d).map (f d))++(its d).map (f d):=by
   rw [List.take_succ,hd];simp
  have l1:=rR (fun d=>(its d).map (f d)) n (ds.take (i+1)) (fun d hd=>by simpa using hn d (List.mem_of_mem_take hd))
  rw [e5] at l1
  simp only [List.length_append,List.length_map,List.length_take] at l1
  refine ym (f d) ?_ e3 e4 ⟨rfl,e5.symm⟩
  have:(min (i+1) ds.length)*n<=ds.length*n:=Nat.mul_le_mul_right _ (Nat.min_le_right _ _)
  omega
 ·rintro acc M' ⟨rfl,rfl⟩
  simpa using hk
def yj (w:Nat)(l:List (List Nat)):List (List Nat):=l.flatMap fun s=>(List.range w).map fun x=>s++[x]
def fh (w:Nat):Nat->List (List Nat)
 |0=>[[]]
 |p+1=>yj w (fh w p)
def dB (m:bu):List (List Nat):=fh m.words m.places
def jW (m:bu)(s:List Nat):Prop:=s.length=m.places/\∀x∈s,x<m.words
theorem vD {w p:Nat}:∀s∈fh w p,s.length=p/\∀x∈s,x<w:=by
 induction p with
 |zero=>intro s hs;simp [fh] at hs;subst hs;simp
 | succ p ih =>
   intro s hs
   simp only [fh,yj,List.mem_flatMap,List.mem_map,List.mem_range] at hs
   obtain ⟨t,ht,x,hx,rfl⟩:=hs
   obtain ⟨h1,h2⟩:=ih t ht
   refine ⟨by simp [h1],fun y hy=>?_⟩
   rcases List.mem_append.mp hy with z|z
   ·exact h2 y z
   ·simp at z;omega
theorem E1 {m:bu}:∀s∈dB m,jW m s:=vD
theorem lF {w:Nat}(hw:w<=4):∀p≤2,(fh w p).length<=4^p
 |0,_=>by simp [fh]
 | p + 1, hp => by
   have:=lF hw p (by omega)
   have l:=rR (fun s:List Nat=>(List.range w).map fun x=>s++[x]) 4 (fh w p) (fun d hd=>by simpa using hw)
   simp only [fh,yj]
   calc _<=(fh w p).length*4:=l
    _<=4^p*4:=Nat.mul_le_mul_right _ this
    _=4^(p+1):=by rw [Nat.pow_succ]
theorem Cm {m:bu}(hm:cK m):(dB m).length<=16:=by
 have h:=lF hm.w4 m.places hm.p2
 have h1:=hm.p1
 have h2:=hm.p2
 have:m.places=1\/m.places=2:=by omega
 rcases this with e|e<;>rw [e] at h<;>unfold dB<;>rw [e]<;>omega
def fm:bq->List Nat->Nat
 |.turn a t _,s=>t.getD (s.getD a 0) 0
 |.join a o t _,s=>(t.getD (s.getD a 0) []).getD (s.getD o 0) 0
 |.move _ o _,s=>s.getD o 0
 |.put _ x _,_=>x
def bq.at':bq->Nat
 |.turn a _ _=>a
 |.join a _ _ _=>a
 |.move a _ _=>a
 |.put a _ _=>a
def iV (d:bq)(s:List Nat):List Nat:=s.take d.at'++[fm d s]++s.drop (d.at'+1)
theorem getD_mem {α:Type}{l:List α}{i:Nat}{d:α}(h:i<l.length):l.getD i d∈l:=by
 rw [List.getD_eq_getElem?_getD,List.getElem?_eq_getElem h];exact List.getElem_mem h
theorem xG {m:bu}{d:bq}{s:List Nat}(hd:cT m.words m.places d)(hs:jW m s):fm d s<m.words:=by
 obtain ⟨hl,hx⟩:=hs
 cases d with
 | turn a t c =>
   obtain ⟨h1,h2,h3⟩:=hd
   have:=hx _ (getD_mem (d:=0) (show a<s.length by omega))
   exact h2.2 _ (getD_mem (by rw [h2.1];exact this))
 | join a o t c =>
   obtain ⟨h1,h2,h3,h4⟩:=hd
   have a1:=hx _ (getD_mem (d:=0) (show a<s.length by omega))
   have a2:=hx _ (getD_mem (d:=0) (show o<s.length by omega))
   have a3:=h3.2 _ (getD_mem (d:=[]) (show s.getD a 0<t.length by rw [h3.1];exact a1))
   exact a3.2 _ (getD_mem (by rw [a3.1];exact a2))
 |move a o c=>exact hx _ (getD_mem (by obtain ⟨h1,h2,h3⟩:=hd;omega))
 |put a x c=>exact hd.2.1
theorem C7 {w p:Nat}{d:bq}(hd:cT w p d):d.at'<p:=by cases d<;>exact hd.1
theorem Ad {m:bu}{d:bq}{s:List Nat}(hd:cT m.words m.places d)(hs:jW m s):jW m (iV d s):=by
 have h1:=C7 hd
 have h2:=xG hd hs
 obtain ⟨hl,hx⟩:=hs
 refine ⟨by simp [iV];omega,fun x hm=>?_⟩
 simp only [iV,List.mem_append,List.mem_singleton] at hm
 rcases hm with (z|z)|z
 ·exact hx x (List.mem_of_mem_take z)
 ·omega
 ·exact hx x (List.mem_of_mem_drop z)
def i9 (m:bu)(r:List Nat):Prop:=r.length<=40/\∀i∈r,i<m.deeds.length
def jd (m:bu)(i:Nat):bq:=m.deeds.getD i (.put 0 0 1)
def dJ (m:bu):List Nat->List Nat->List Nat
 |[],s=>s
 |i::r,s=>dJ m r (iV (jd m i) s)
def eW (m:bu):List Nat->List Nat->List (List Nat)
 |[],s=>[s]
 |i::r,s=>s::eW m r (iV (jd m i) s)
theorem pX {m:bu}(hm:cK m){i:Nat}(hi:i<m.deeds.length):cT m.words m.places (jd m i):=hm.ok _ (getD_mem hi)
theorem wK {m:bu}(hm:cK m):∀{r:List Nat}{s:List Nat},(∀i∈r,i<m.deeds.length)->jW m s->jW m (dJ m r s)
 |[],s,_,h=>h
 |i::r,s,hr,h=>wK (r:=r) hm (fun j hj=>hr j (List.mem_cons_of_mem _ hj)) (Ad (pX hm (hr i List.mem_cons_self)) h)
theorem sE {m:bu}:∀(r:List Nat) (i:Nat) (s:List Nat),eW m (r++[i]) s=eW m r s++[iV (jd m i) (dJ m r s)]
 |[],i,s=>rfl
 |j::r,i,s=>by simp [eW,dJ,sE r i]
theorem pC {m:bu}:∀(r s:List Nat),(eW m r s).length=r.length+1
 |[],s=>rfl
 |i::r,s=>by simp [eW,pC r]
theorem sF {m:bu}:∀(r s:List Nat),(eW m r s)[r.length]?=some (dJ m r s)
 |[],s=>rfl
 |i::r,s=>by simp [eW,dJ,sF r]
theorem oS {m:bu}(r s:List Nat):((bV (eW m r s).length (-1)).bind fun j=>Option.map bg (eW m r s)[j]?)=some (bg (dJ m r s)):=by
 rw [pC,En (by omega)]
 show Option.map bg (eW m r s)[r.length+1-1]?=_
 rw [Nat.add_sub_cancel,sF]
 rfl
theorem AR {s:List Nat}{i:Nat}(hi:i<s.length):(bV (s.map nD).length (i:Int)).bind (fun j=>(s.map nD)[j]?)=some (nD (s.getD i 0)):=by
 rw [gq (by simpa using hi)]
 simp [List.getD_eq_getElem?_getD,hi]
def qX (r:List Nat):D:=.lst (r.map nD)
theorem BM {m:bu}{i:Nat}(hi:i<m.deeds.length):((bV (m.deeds.map bq.d).length (i:Int)).bind fun j=>(m.deeds.map bq.d)[j]?)=some (jd m i).d:=by
 rw [gq (by simpa using hi)]
 simp [jd,List.getD_eq_getElem?_getD,hi]
theorem Ku {m:bu}{M:Mem}:fq m.d (.int 2) M=some (.tup (m.deeds.map bq.d)):=rfl
theorem B1 {m:bu}{M:Mem}{i:Nat}(hi:i<m.deeds.length):fq (.tup (m.deeds.map bq.d)) (nD i) M=some (jd m i).d:=BM hi
theorem zV {d:bq}{M:Mem}:fq d.d (.int (-1)) M=some (nD d.cost):=by cases d<;>rfl
theorem lY {s:List Nat}{M:Mem}{i:Nat}(hi:i<s.length):fq (bg s) (nD i) M=some (nD (s.getD i 0)):=AR hi
theorem HL {t:List (List Nat)}{M:Mem}{i:Nat}(hi:i<t.length):fq (.tup (t.map bg)) (nD i) M=some (bg (t.getD i [])):=by
 show (bV (t.map bg).length (i:Int)).bind (fun j=>(t.map bg)[j]?)=_
 rw [gq (by simpa using hi)]
 simp [List.getD_eq_getElem?_getD,hi]
def eF (M:Mem)(x:D)(r:List Nat):Prop:=x=.lst (r.map nD)\/∃q,x=.cell q/\M[q]?=some (r.map nD)
theorem eF.l {M:Mem}{r:List Nat}:eF M (.lst (r.map nD)) r:=.inl rfl
theorem eF.sub {M M':Mem}{x:D}{r:List Nat}(h:eF M x r)(s:Sub M M'):eF M' x r:=h.elim .inl fun ⟨q,e,g⟩=>.inr ⟨q,e,s.get g⟩
theorem eF.seq {M:Mem}{x:D}{r:List Nat}(h:eF M x r):cm M x=some (r.map nD):=by
 rcases h with rfl|⟨q,rfl,e⟩
 ·rfl
 ·exact e
theorem eF.is {M:Mem}{x:D}{r:List Nat}(h:eF M x r):dS x=true/\fe x=true/\bX .list x=some true:=by
 rcases h with rfl|⟨q,rfl,e⟩<;>exact ⟨rfl,rfl,rfl⟩
theorem eF.len {M:Mem}{x:D}{r:List Nat}{k:D->Mem->Prop}(h:eF M x r):aj (gv .len [x] M) k↔k (.int r.length) M:=by
 rcases h with rfl|⟨q,rfl,e⟩
 ·show k (.int (r.map nD).length) M↔_
  simp
 ·show aj (match M[q]? with|some xs=>_|none=>_) k↔_
  rw [e];simp
section
variable {P:Nat->Option Df}(h:HasM0 P){M:Mem}
include h
theorem uA (n:Nat){m:bu}(hm:cK m):av P (n+8) 13 [m.d] M=.ok .non M:=by
 refine aE (aK h.need_machine rfl ?_)
 simp [c9,pz h.q n (j9 hm) (by decide),lz hm]
theorem v9 (h15:P 15=some ⟨1,6,dN⟩)(n:Nat){m:bu}(hm:cK m):av P (n+9) 15 [m.d] M=.ok (.lst ((dB m).map bg)) M:=by
 refine aE (aK h15 rfl ?_)
 have w4:=hm.w4
 have p2:=hm.p2
 simp [dN,uA h n hm]
 simp [bu.d,gm]
 refine ⟨by decide,by omega,?_⟩
 refine ft (ds:=(List.range m.places).map fun (k:Nat)=>D.int (k:Int)) (fun i Z M'=>M'=M/\∃a,Z=[some m.d,some (nD m.words),some (nD m.places),some (.tup (m.deeds.map bq.d)),some (.lst ((fh m.words i).map bg)),a]) (fun _ _ _ _=>rfl) ⟨rfl,none,by simp [bu.d,fh,bg]⟩ ?_ ?_
 ·rintro i d Z M' hd ⟨rfl,a,rfl⟩
  have hi:i<m.places:=by
   have:=(List.getElem?_eq_some_iff.mp hd).1
   simpa using this
  refine ⟨_,rfl,?_⟩
  simp [dS]
  refine yn (ds:=(fh m.words i).map bg) (fun _=>(List.range m.words).map fun (k:Nat)=>D.int (k:Int)) (fun d e=>match d,e with|.tup x,e=>.tup (x++[e])|_,_=>.non) 4 (by simpa using fun _ _=>w4) ?_ rfl ?_ ?_
  ·have:=lF w4 i (by omega)
   have:(4:Nat)^i<=4^2:=Nat.pow_le_pow_right (by decide) (by omega)
   simp only [List.length_map]
   exact aM (by omega)
  ·intro d hd
   obtain ⟨s,hs,rfl⟩:=List.mem_map.mp hd
   have ⟨l1,_⟩:=vD s hs
   refine ⟨_,rfl,(fun _=>some ((List.range m.words).map fun (k:Nat)=>D.int (k:Int))),aO ?_,rfl,fun e he=>⟨_,rfl,aE ?_⟩⟩
   ·simp
    omega
   ·simp [bg,sz]
    omega
  ·have e0:((fh m.words i).map bg).flatMap (fun d=>((List.range m.words).map fun (k:Nat)=>D.int (k:Int)).map (fun e=>match d,e with|.tup x,e=>D.tup (x++[e])|_,_=>.non))=(fh m.words (i+1)).map bg:=by
    simp only [fh,yj,List.flatMap_map,List.map_flatMap,List.map_map]
    congr 1
    funext s
    simp [bg,Function.comp_def]
   rw [e0]
   refine ⟨?_,rfl,rfl⟩
   have:=lF w4 (i+1) (by omega)
   have:(4:Nat)^(i+1)<=4^2:=Nat.pow_le_pow_right (by decide) (by omega)
   simp only [List.length_map]
   exact aM (by omega)
 ·rintro Z M' ⟨rfl,a,rfl⟩
  simp [dB]
theorem Dr (n:Nat){m:bu}{i:Nat}(hi:i<m.deeds.length):av P (n+2) 16 [m.d,nD i] M=.ok (.bl true) M:=by
 refine aE (aK h.is_deed_number rfl ?_)
 simp [eC,bu.d,bV,w9 h]
 omega
theorem w6 (n:Nat){m:bu}{x:D}{r:List Nat}(hx:eF M x r)(hr:∀i∈r,i<m.deeds.length):av P (n+3) 17 [m.d,x] M=.ok .non M:=by
 refine aE (aK h.need_numbers rfl ?_)
 obtain ⟨i1,i2,i3⟩:=hx.is
 simp [cH,i1,i2,i3]
 refine ft (ds:=dn 0 (r.map nD)) (fun i Z M'=>M'=M/\∃a b,Z=[some m.d,some x,a,b]) (fun _ _ _ e=>by rw [e.1,hx.seq];rfl) ⟨rfl,none,none,rfl⟩ ?_ ?_
 ·rintro i d Z M' hd ⟨rfl,a,b,rfl⟩
  rw [eR] at hd
  rw [List.getElem?_map] at hd
  cases e:r[i]? with
  |none=>rw [e] at hd;cases hd
  | some x =>
    rw [e] at hd
    simp at hd
    subst hd
    refine ⟨_,rfl,?_⟩
    simp [Dr h n (hr x (List.mem_of_getElem? e))]
 ·rintro Z M' ⟨rfl,a,b,rfl⟩
  simp
theorem yZ (n:Nat){m:bu}{x:D}{r:List Nat}(hx:eF M x r)(hm:cK m)(hr:i9 m r):av P (n+9) 18 [m.d,x] M=.ok .non M:=by
 have e:=w6 h (n+5) (m:=m) hx hr.2
 refine aE (aK h.need_row rfl ?_)
 simp [dD,uA h n hm,e]
 rw [hx.len]
 have:=hr.1
 simp
 omega
end
section
variable {P:Nat->Option Df}(h:HasM P){M:Mem}
include h
theorem yU (n:Nat){m:bu}{a c:Nat}{t s:List Nat}(hd:cT m.words m.places (.turn a t c))(hs:jW m s):av P (n+1) 20 [(bq.turn a t c).d,bg s] M=.ok (nD (fm (.turn a t c) s)) M:=by
 obtain ⟨h1,h2,h3⟩:=hd
 have a1:a<s.length:=by rw [hs.1];exact h1
 have a2:s.getD a 0<t.length:=by rw [h2.1];exact hs.2 _ (getD_mem a1)
 refine aE (aK h.turned rfl ?_)
 simp [-jt,-List.getD_eq_getElem?_getD,mP,bq.d,gm,lY a1,lY a2,fm]
theorem y7 (n:Nat){m:bu}{a o c:Nat}{t:List (List Nat)}{s:List Nat}(hd:cT m.words m.places (.join a o t c))(hs:jW m s):av P (n+1) 21 [(bq.join a o t c).d,bg s] M=.ok (nD (fm (.join a o t c) s)) M:=by
 obtain ⟨h1,h2,h3,h4⟩:=hd
 have a1:a<s.length:=by rw [hs.1];exact h1
 have a2:o<s.length:=by rw [hs.1];exact h2
 have a3:s.getD a 0<t.length:=by rw [h3.1];exact hs.2 _ (getD_mem a1)
 have a4:s.getD o 0<(t.getD (s.getD a 0) []).length:=by rw [(h3.2 _ (getD_mem a3)).1];exact hs.2 _ (getD_mem a2)
 refine aE (aK h.joined rfl ?_)
 simp [-jt,-List.getD_eq_getElem?_getD,mR,bq.d,gm,lY a1,lY a2,HL a3,lY a4,fm]
theorem AZ (n:Nat){m:bu}{a o c:Nat}{s:List Nat}(hd:cT m.words m.places (.move a o c))(hs:jW m s):av P (n+1) 22 [(bq.move a o c).d,bg s] M=.ok (nD (fm (.move a o c) s)) M:=by
 obtain ⟨h1,h2,h3⟩:=hd
 have a2:o<s.length:=by rw [hs.1];exact h2
 refine aE (aK h.moved rfl ?_)
 simp [-jt,-List.getD_eq_getElem?_getD,oM,bq.d,gm,lY a2,fm]
theorem AY (n:Nat){a x c:Nat}{s:List Nat}:av P (n+1) 23 [(bq.put a x c).d,bg s] M=.ok (nD (fm (.put a x c) s)) M:=by
 refine aE (aK h.put_in rfl ?_)
 simp [mQ,bq.d,gm,fm]
end
theorem LM:dI.lookup (Str.ofString "turn")=some 20:=by decide +kernel
theorem LL:dI.lookup (Str.ofString "join")=some 21:=by decide +kernel
theorem LK:dI.lookup (Str.ofString "move")=some 22:=by decide +kernel
theorem LJ:dI.lookup (Str.ofString "put")=some 23:=by decide +kernel
theorem Fp {s:List Nat}{M:Mem}{k:D->Mem->Prop}{a:Nat}(ha:a<=s.length):aj (eG false (bg s) .non (.int a) M) k↔k (bg (s.take a)) M:=by
 simp only [eG,bg,aV,cut]
 rw [if_neg (by omega)]
 simp
 rw [Nat.min_eq_left (by simpa using ha)]
theorem Dt {s:List Nat}{M:Mem}{k:D->Mem->Prop}{a:Nat}(ha:a<=s.length):aj (eG false (bg s) (.int a) .non M) k↔k (bg (s.drop a)) M:=by
 simp only [eG,bg,aV,cut]
 rw [if_neg (by omega)]
 simp
 rw [Nat.min_eq_left (by simpa using ha),List.take_of_length_le (by simp)]
section
variable {P:Nat->Option Df}(h:HasM P){M:Mem}
include h
theorem Dq (n:Nat){m:bu}{d:bq}{s:List Nat}(hm:cK m)(hd:cT m.words m.places d)(hs:jW m s):av P (n+2) 24 [d.d,bg s] M=.ok (bg (iV d s)) M:=by
 have a0:=C7 hd
 have l0:=hs.1
 have p2:=hm.p2
 have key:∀f,av P (n+1) f [d.d,bg s] M=.ok (nD (fm d s)) M->fq d.d (.int 1) M=some (nD d.at')->(∀k:D->Mem->Prop,(∃y,fq d.d (.int 0) M=some (.str y)/\dI.lookup y=some f))->av P (n+2) 24 [d.d,bg s] M=.ok (bg (iV d s)) M:=fun f e1 e2 e3=>by
  obtain ⟨y,e3,e4⟩:=e3 fun _ _=>True
  refine aE (aK h.done rfl ?_)
  simp only [qK,aR,gp,HX,lD,bt,dM,eJ,cB,eE,oB,jB,bw,bN,EC]
  simp [-jt,e1,e2,e3,e4,cw]
  rw [Fp (by omega),e1]
  have e5:(d.at':Int)+1=((d.at'+1:Nat):Int):=by omega
  rw [e5]
  simp only [gK,bg,ma]
  refine ⟨by decide,?_,?_⟩
  ·simp
   exact aM (by omega)
  ·rw [show D.tup (s.map nD)=bg s from rfl,Dt (by omega)]
   simp only [bg,ma]
   refine ⟨?_,?_,trivial⟩
   ·simp
    exact aM (by omega)
   ·simp [iV]
 cases d with
 |turn a t c=>exact key 20 (yU h n hd hs) rfl fun _=>⟨_,rfl,LM⟩
 |join a o t c=>exact key 21 (y7 h n hd hs) rfl fun _=>⟨_,rfl,LL⟩
 |move a o c=>exact key 22 (AZ h n hd hs) rfl fun _=>⟨_,rfl,LK⟩
 |put a x c=>exact key 23 (AY h n) rfl fun _=>⟨_,rfl,LJ⟩
theorem vH (n:Nat){m:bu}{x:D}{r s:List Nat}(hx:eF M x r)(hm:cK m)(hrl:r.length<=100000)(hr:∀i∈r,i<m.deeds.length)(hs:jW m s):av P (n+3) 25 [m.d,x,bg s] M=.ok (.cell M.length) (M++[(eW m r s).map bg]):=by
 refine aE (aK h.all_standing rfl ?_)
 simp [gM,hx.is]
 refine ⟨by decide,?_⟩
 refine ft (ds:=r.map nD) (fun i Z M'=>M'=M++[(eW m (r.take i) s).map bg]/\∃a,Z=[some m.d,some x,some (bg s),some (.cell M.length),a]) (fun _ _ _ e=>by rw [e.1];exact (hx.sub Sub.app).seq) ⟨by simp [eW],none,rfl⟩ ?_ ?_
 ·rintro i d Z M' hd ⟨rfl,a,rfl⟩
  rw [List.getElem?_map] at hd
  cases e:r[i]? with
  |none=>rw [e] at hd;cases hd
  | some x =>
    rw [e] at hd
    simp at hd
    subst hd
    have hx:=hr x (List.mem_of_getElem? e)
    have hi:i<r.length:=(List.getElem?_eq_some_iff.mp e).1
    refine ⟨_,rfl,?_⟩
    have hse:jW m (dJ m (r.take i) s):=wK hm (fun j hj=>hr j (List.mem_of_mem_take hj)) hs
    have hl:=pC (m:=m) (r.take i) s
    have hl2:(r.take i).length=i:=by simp;omega
    simp [-jt,Ku,B1 hx,oS,Dq h n hm (pX hm hx) hse]
    refine ⟨?_,?_⟩
    ·rw [hl,hl2]
     exact Nat.lt_of_le_of_lt (show i+1<=100001 by omega) (by decide)
    ·rw [List.take_succ,e]
     simp [sE]
 ·rintro Z M' ⟨rfl,a,rfl⟩
  simp
def nX (m:bu)(r:List Nat):D:=.tup ((dB m).map fun s=>bg (dJ m r s))
theorem uB (h15:P 15=some ⟨1,6,dN⟩)(h46:P 46=some ⟨2,2,gD⟩)(n:Nat){m:bu}{x:D}{r:List Nat}(hx:eF M x r)(hm:cK m)(hrl:r.length<=100000)(hr:∀i∈r,i<m.deeds.length):av P (n+10) 46 [m.d,x] M=.ok (nX m r) (M++(dB m).map fun s=>(eW m r s).map bg):=by
 refine aE (aK h46 rfl ?_)
 simp [gD,v9 h.toHasM0 h15 n hm]
 refine ⟨rfl,?_⟩
 have bl:=Cm hm
 refine comp_map (ds:=(dB m).map bg) (fun i acc M'=>acc=((dB m).take i).map (fun s=>bg (dJ m r s))/\M'=M++((dB m).take i).map fun s=>(eW m r s).map bg) (aM (by simp;omega)) (fun _ _ _ _=>rfl) (by simp) ?_ ?_
 ·rintro i d acc M' hd _ ⟨rfl,eM⟩
  rw [List.getElem?_map] at hd
  cases e:(dB m)[i]? with
  |none=>rw [e] at hd;cases hd
  | some s =>
    rw [e] at hd
    have hd:bg s=d:=Option.some.inj hd
    subst hd
    have hs:=E1 s (List.mem_of_getElem? e)
    refine ⟨_,rfl,?_⟩
    have st:=vH h (n+6) (M:=M') (by rw [eM];exact hx.sub Sub.app) hm hrl hr hs
    simp [st,oS]
    rw [eM,List.take_succ,List.take_succ]
    simp [e]
 ·rintro acc M' _ ⟨rfl,rfl⟩
  simp
  exact ⟨aM (by omega),by simp [nX,List.take_of_length_le]⟩
theorem nt (h15:P 15=some ⟨1,6,dN⟩)(h27:P 27=some ⟨2,2,dE⟩)(h46:P 46=some ⟨2,2,gD⟩)(n:Nat){m:bu}{x:D}{r:List Nat}(hx:eF M x r)(hm:cK m)(hr:i9 m r):av P (n+11) 27 [m.d,x] M=.ok (nX m r) (M++(dB m).map fun s=>(eW m r s).map bg):=by
 refine aE (aK h27 rfl ?_)
 simp [dE,yZ h.toHasM0 (n+1) hx hm hr,uB h h15 h46 n hx hm (tqh hr.1 (by decide)) hr.2]
theorem Fj (h15:P 15=some ⟨1,6,dN⟩)(h27:P 27=some ⟨2,2,dE⟩)(h46:P 46=some ⟨2,2,gD⟩)(n:Nat){m:bu}{r:List Nat}(hm:cK m)(hr:i9 m r):av P (n+11) 27 [m.d,qX r] M=.ok (nX m r) (M++(dB m).map fun s=>(eW m r s).map bg):=nt h h15 h27 h46 n .l hm hr
end
end LD
namespace LD
open PySem
@[simp] theorem BP {j:Nat}{M:Mem}{k:D->Mem->Prop}:aj (gv .len [.cell j] M) k↔∃ds,M[j]?=some ds/\k (.int ds.length) M:=by
 show aj (match M[j]? with|some xs=>_|none=>_) k↔_
 cases M[j]?<;>simp
structure aQ (M:Mem) (p B:Nat):Prop where
 ex:∃(c:Nat) (cells:List Int) (at_ st:Int),M[p]?=some [.cell c,.int at_,.int st]/\M[c]?=some (cells.map D.int)/\c<p/\0<=at_/\at_<=B/\0<=st
structure bI (p:Nat) (M M':Mem):Prop where
 len:M.length<=M'.length
 at':∀k,k<M.length->k≠p->M'[k]?=M[k]?
theorem bI.refl {p:Nat}{M:Mem}:bI p M M:=⟨tqg _,fun _ _ _=>rfl⟩
theorem bI.trans {p:Nat}{M M1 M2:Mem}(a:bI p M M1)(b:bI p M1 M2):bI p M M2:=⟨tqh a.len b.len,fun k hk n=>(b.at' k (tqi hk a.len) n).trans (a.at' k hk n)⟩
theorem bI.set {p:Nat}{M:Mem}{ds:List D}:bI p M (M.set p ds):=⟨by simp,fun k _ n=>List.getElem?_set_ne (Ne.symm n)⟩
theorem bI.app {p:Nat}{M X:Mem}:bI p M (M++X):=⟨by simp,fun k hk _=>List.getElem?_append_left hk⟩
theorem bI.get {p k:Nat}{M M':Mem}{ds:List D}(h:bI p M M')(e:M[k]?=some ds)(n:k≠p):M'[k]?=some ds:=by rw [h.at' k (List.getElem?_eq_some_iff.mp e).1 n];exact e
theorem aQ.lt {M:Mem}{p B:Nat}(h:aQ M p B):p<M.length:=by obtain ⟨_,_,_,_,e,_⟩:=h.ex;exact (List.getElem?_eq_some_iff.mp e).1
theorem aQ.app {M X:Mem}{p B:Nat}(h:aQ M p B):aQ (M++X) p B:=by
 obtain ⟨c,cells,a,st,e1,e2,r⟩:=h.ex
 exact ⟨c,cells,a,st,by rw [List.getElem?_append_left (List.getElem?_eq_some_iff.mp e1).1];exact e1,by rw [List.getElem?_append_left (List.getElem?_eq_some_iff.mp e2).1];exact e2,r⟩
theorem aQ.mono {M:Mem}{p B B':Nat}(h:aQ M p B)(hb:B<=B'):aQ M p B':=by
 obtain ⟨c,cells,a,st,e1,e2,e3,e4,e5,e6⟩:=h.ex
 exact ⟨c,cells,a,st,e1,e2,e3,e4,by omega,e6⟩
theorem aQ.setq {M:Mem}{p q B:Nat}{ds:List D}(h:aQ M p B)(hq:p<q):aQ (M.set q ds) p B:=by
 obtain ⟨c,cells,a,st,e1,e2,e3,e4,e5,e6⟩:=h.ex
 exact ⟨c,cells,a,st,by rw [List.getElem?_set_ne (by omega)];exact e1,by rw [List.getElem?_set_ne (by omega)];exact e2,e3,e4,e5,e6⟩
theorem bI.setq {p q:Nat}{M M':Mem}{ds:List D}(h:bI p M M')(hq:M.length<=q):bI p M (M'.set q ds):=⟨by simpa using h.len,fun k hk n=>by rw [List.getElem?_set_ne (by omega)];exact h.at' k hk n⟩
theorem zK {a b A B:Int}(h1:0<=a)(h2:a<=A)(h3:0<=b)(h4:b<=B):0<=a*b/\a*b<=A*B:=
 ⟨Int.mul_nonneg h1 h3,Int.mul_le_mul h2 h4 h3 (Int.le_trans h1 h2)⟩
def DV:List D:=[.int 2147483629,.int 2147483587,.int 2147483579,.int 2147483563,.int 2147483549,.int 2147483543,.int 2147483497,.int 2147483489,.int 2147483477,.int 2147483423,.int 2147483399,.int 2147483353,.int 2147483323]
theorem pE (j:Int)(M:Mem):∃q:Int,fq (.lst DV) (.int (j % 13)) M=some (.int q)/\0<q/\q<2147483648:=by
 have h1:0<=j % 13:=Int.emod_nonneg _ (by decide)
 have h2:j % 13<13:=Int.emod_lt_of_pos _ (by decide)
 generalize j % 13=i at h1 h2
 have:i=0\/i=1\/i=2\/i=3\/i=4\/i=5\/i=6\/i=7\/i=8\/i=9\/i=10\/i=11\/i=12:=by omega
 rcases this with rfl|rfl|rfl|rfl|rfl|rfl|rfl|rfl|rfl|rfl|rfl|rfl|rfl<;>exact ⟨_,rfl,by decide,by decide⟩
section
variable {P:Nat->Option Df}(h:HasP0 P){M:Mem}
include h
theorem yW (n:Nat){x a:Int}(h0:0<=a)(h1:a<=1000000):aj (av P (n+1) 28 [.int x,.int a] M) fun d M'=>M'=M/\∃v:Int,d=.int v/\0<=v:=by
 refine aK h.law_spread rfl ?_
 simp [-wD,hV]
 by_cases hx:(1000000000000000000:Int)<=x
 ·exact .inr ⟨hx,by omega⟩
 ·have r1:=Int.emod_nonneg x (show (1000000007:Int)≠0 by decide)
  have r2:=Int.emod_lt_of_pos x (show (0:Int)<1000000007 by decide)
  have r3:=Int.emod_nonneg x (show (65537:Int)≠0 by decide)
  have r4:=Int.emod_lt_of_pos x (show (0:Int)<65537 by decide)
  obtain ⟨m1,m2⟩:=zK r1 (Int.le_of_lt r2) (show 0<=2*a+69069 by omega) (show 2*a+69069<=2069069 by omega)
  refine .inl ⟨by omega,by decide,by decide,by decide,.inl ⟨by omega,by omega⟩,by omega,?_⟩
  obtain ⟨q1,e1,p1,p2⟩:=pE a M
  refine ⟨.int q1,e1,?_⟩
  generalize (x % 1000000007*(2*a+69069)+a*40503+977)^3=y1
  have b1:=Int.emod_nonneg y1 (show q1≠0 by omega)
  have b2:=Int.emod_lt_of_pos y1 p1
  generalize hz1:y1 % q1=one at b1 b2
  obtain ⟨m3,m4⟩:=zK b1 (show one<=2147483648 by omega) (show 0<=a+3 by omega) (show a+3<=1000003 by omega)
  simp only [qr,vf,gE,uR,hz1]
  refine ⟨p1,.inr ⟨by omega,by omega⟩,⟨by decide,by decide,by omega⟩,?_⟩
  obtain ⟨q2,e2,p3,p4⟩:=pE (a+5) M
  refine ⟨.int q2,e2,?_⟩
  generalize (one*(a+3)+x % 65537+5)^(5:Int).toNat=y2
  have b3:=Int.emod_nonneg y2 (show q2≠0 by omega)
  have b4:=Int.emod_lt_of_pos y2 p3
  generalize hz2:y2 % q2=two at b3 b4
  have r5:=Int.emod_nonneg one (show (1009:Int)≠0 by decide)
  have r6:=Int.emod_lt_of_pos one (show (0:Int)<1009 by decide)
  simp only [qr,vf,gE,uR,hz2]
  refine ⟨p3,by decide,⟨by decide,by decide,by omega⟩,?_⟩
  obtain ⟨q3,e3,p5,p6⟩:=pE (a+7) M
  refine ⟨.int q3,e3,?_⟩
  generalize (two+one % 1009+a)^(3:Int).toNat=y3
  have b5:=Int.emod_nonneg y3 (show q3≠0 by omega)
  simp only [qr,vf,gE,uR]
  refine ⟨p5,.inr ⟨by decide,by decide⟩,.inr ⟨by decide,by decide⟩,trivial,_,rfl,by omega⟩
omit h in
theorem LU:bV 3 0=some 0:=rfl
omit h in
theorem LR:bV 3 1=some 1:=rfl
omit h in
theorem HH:bV 3 2=some 2:=rfl
omit h in
theorem rM {l:List Int}{i:Int}(h0:0<=i)(h1:i<l.length):∃x,((bV l.length i).bind fun j=>Option.map D.int l[j]?)=some (.int x):=by
 obtain ⟨k,rfl⟩:=Int.eq_ofNat_of_zero_le h0
 have hk:k<l.length:=by omega
 refine ⟨l[k],?_⟩
 rw [gq hk]
 simp [hk]
def mq:GS:=ai (aU (.one 4) (aH false .mod (a8 (ag 0) (gI 2)) (ag 1))) (ai (jl (ag 0) (gI 2) (aH false .fdiv (a8 (ag 0) (gI 2)) (ag 1))) (ai (aW (ag 4)) aw))
def qS (c:Call):GS:=ai (jl (ag 0) (gI 1) (aH false .add (ag 2) (gI 1))) (ai (jl (ag 0) (gI 2) (az 28 c (af (ag 3) (af (ag 2) au)))) aw)
omit h in
theorem sq {M M1:Mem}{p c many B:Nat}{cells:List Int}{a st:Int}{x y:Option D}(e1:M1[p]?=some [.cell c,.int a,.int st])(e2:M1[c]?=some (cells.map D.int))(lt:c<p)(a0:0<=a)(aB:a<=(B+1:Nat))(s0:0<=st)(k:bI p M M1)
 (h0:0<many) (h1:many<=10000000):aj (mq [some (.cell p),some (nD many),x,y,none] M1) (jU fun d M'=>∃v:Nat,d=nD v/\v<many/\aQ M' p (B+1)/\bI p M M'):=by
 have hp:p<M1.length:=(List.getElem?_eq_some_iff.mp e1).1
 have ne:c≠p:=tqk lt
 have b0:(0:Int)<(many:Int):=by omega
 have r1:=Int.emod_nonneg st (show (many:Int)≠0 by omega)
 have r2:=Int.emod_lt_of_pos st b0
 simp [mq,e1,bV]
 refine ⟨by omega,by omega,(st % many).toNat,by omega,by omega,⟨c,cells,a,st / many,?_,?_,lt,a0,aB,Int.ediv_nonneg s0 (by omega)⟩,k.trans bI.set⟩
 ·simp [hp]
 ·rw [List.getElem?_set_ne (Ne.symm ne)];exact e2
theorem v5 (n:Nat){p B many:Nat}(hp:aQ M p B)(hB:B<=1000000)(h0:0<many)(h1:many<=10000000):aj (av P (n+2) 31 [.cell p,nD many] M) fun d M'=>∃v:Nat,d=nD v/\v<many/\aQ M' p (B+1)/\bI p M M':=by
 obtain ⟨c,cells,a,st,e1,e2,lt,a0,aB,s0⟩:=hp.ex
 have ne:c≠p:=tqk lt
 have hpl:p<M.length:=(List.getElem?_eq_some_iff.mp e1).1
 refine aK h.law_take rfl ?_
 show aj (ai (bf _ (ai _ (ai _ (ai _ (qS (av P (n+1)))))) _) mq [some (.cell p),some (nD many),none,none,none] M) _
 have mid:∀(x:Int),aj (qS (av P (n+1)) [some (.cell p),some (nD many),some (.int a),some (.int x),none] M) (mn mq (jU fun d M'=>∃v:Nat,d=nD v/\v<many/\aQ M' p (B+1)/\bI p M M')):=by
  intro x
  unfold qS
  simp [e1,bV]
  refine bo (yW h n (x:=x) (a:=a) a0 (by omega)) fun d M' ⟨e,v,ev,v0⟩=>?_
  subst e ev
  refine ⟨[.cell c,.int (a+1),.int st],by simp [hpl],2,by simp,?_⟩
  have k1:bI p M ((M.set p [.cell c,.int (a+1),.int st]).set p ([.cell c,.int (a+1),.int st].set 2 (.int v))):=bI.set.trans bI.set
  refine sq (c:=c) (cells:=cells) (a:=a+1) (st:=v) ?_ ?_ lt (by omega) (by omega) v0 k1 h0 h1
  ·simp [hpl]
  ·rw [List.getElem?_set_ne (Ne.symm ne),List.getElem?_set_ne (Ne.symm ne)];exact e2
 have c0:(0:Int)<=(cells.length:Int):=by omega
 simp [e1,e2,LU,LR,HH,nD]
 by_cases c1:st<many
 ·refine .inr ⟨c1,?_⟩
  by_cases c2:a<(cells.length:Int)
  ·obtain ⟨x,ex⟩:=rM a0 c2
   exact .inr ⟨c2,_,ex,mid x⟩
  ·refine .inl ⟨by omega,?_⟩
   by_cases c3:cells=[]
   ·exact .inl ⟨c3,mid 0⟩
   ·have c4:0<cells.length:=List.length_pos_iff.mpr c3
    have r1:=Int.emod_nonneg (a*5+3) (show (cells.length:Int)≠0 by omega)
    have r2:=Int.emod_lt_of_pos (a*5+3) (show (0:Int)<(cells.length:Int) by omega)
    obtain ⟨x,ex⟩:=rM r1 r2
    refine .inr ⟨c4,_,ex,?_⟩
    simp only [qr]
    exact ⟨by omega,mid _⟩
 ·refine .inl ⟨by omega,?_⟩
  exact sq e1 e2 lt a0 (by omega) s0 .refl h0 h1
end
end LD
namespace LD
open PySem
def bq.withC:bq->Nat->bq
 |.turn a t _,c=>.turn a t c
 |.join a o t _,c=>.join a o t c
 |.move a o _,c=>.move a o c
 |.put a x _,c=>.put a x c
theorem AI {w p c:Nat}{d:bq}(h:cT w p d)(hc:fQ c):cT w p (d.withC c):=by
 cases d with
 |turn=>exact ⟨h.1,h.2.1,hc⟩
 |join=>exact ⟨h.1,h.2.1,h.2.2.1,hc⟩
 |move=>exact ⟨h.1,h.2.1,hc⟩
 |put=>exact ⟨h.1,h.2.1,hc⟩
theorem EW {w p:Nat}{d:bq}(h:cT w p d):fQ d.cost:=by
 cases d with
 |turn=>exact h.2.2
 |join=>exact h.2.2.2
 |move=>exact h.2.2
 |put=>exact h.2.2
theorem Ce {d:bq}{c:Nat}{M:Mem}{k:D->Mem->Prop}(hk:k (d.withC c).d M):aj (eG false d.d .non (.int (-1)) M) fun x M=>aj (fv false .add x (.tup [nD c]) M) k:=by
 cases d<;>(simp [bq.d,eG,aV,cut];exact ⟨by decide,hk⟩)
theorem AV (n:Nat)(d:bq):aG (n+3) d.d=true:=by
 have tp:∀(n:Nat) (l:List Nat),(l.map nD).all (aG n)=true:=fun n l=>by
  rw [List.all_eq_true];intro x hx;obtain ⟨i,_,rfl⟩:=List.mem_map.mp hx;cases n<;>rfl
 cases d with
 |turn a t c=>simp [bq.d,aG,bg,nD];decide +kernel
 |join a o t c=>simp [bq.d,aG,nD,bg];decide +kernel
 |move a o c=>simp [bq.d,aG,nD];decide +kernel
 |put a x c=>simp [bq.d,aG,nD];decide +kernel
theorem ne_nil {M:Mem}{q:Nat}{ds:List bq}(e:M[q]?=some (ds.map bq.d)):bP .ne (.cell q) (.lst []) M=some (!ds.isEmpty):=by
 have hp:(ds.map bq.d).all (aG 63)=true:=by
  rw [List.all_eq_true];intro x hx;obtain ⟨d,_,rfl⟩:=List.mem_map.mp hx;exact AV 60 d
 have hv:view M (.cell q)=.lst (ds.map bq.d):=by simp [view,e]
 have h1:aG 64 (.lst (ds.map bq.d))=true:=hp
 refine oH (by rw [hv];exact h1) rfl ?_
 rw [hv]
 cases ds<;>rfl
@[simp] theorem Hq {m:Bool}{x:List D}{j:Int}{M:Mem}{k:D->Mem->Prop}:aj (fv m .mul (.tup x) (.int j) M) k↔(x.length*j.toNat<=sz/\-(2^63)<=j/\j<2^63)/\k (.tup (List.replicate j.toNat x).flatten) M:=kS
@[simp] theorem Hr {m:Bool}{x:List D}{j:Int}{M:Mem}{k:D->Mem->Prop}:aj (fv m .mul (.lst x) (.int j) M) k↔(x.length*j.toNat<=sz/\-(2^63)<=j/\j<2^63)/\aj (bT m (List.replicate j.toNat x).flatten M) k:=kS
theorem uE {xs:List D}{a:Nat}{M:Mem}{k:D->Mem->Prop}:aj (eG false (.lst xs) .non (.int a) M) k↔(xs.take a).length<=sz/\k (.lst (xs.take a)) M:=by
 have e:cut xs 0 (min a xs.length)=xs.take a:=by
  unfold cut
  rcases Nat.le_total a xs.length with h|h
  ·rw [Nat.min_eq_left h];simp
  ·rw [Nat.min_eq_right h];simp [List.take_of_length_le h]
 show aj (match aV xs.length 0 D.non,aV xs.length xs.length (.int a) with|some l,some h=>bT false (cut xs l h) M|_,_=>.bad) k↔_
 have e2:aV xs.length xs.length (.int a)=some (min a xs.length):=by
  show some _=_
  rw [if_neg (by omega)];simp
 rw [e2]
 show aj (bT false (cut xs 0 (min a xs.length)) M) k↔_
 rw [e,cq]
theorem A8 {xs:List D}{a:Nat}{M:Mem}{k:D->Mem->Prop}:aj (eG false (.lst xs) (.int a) .non M) k↔(xs.drop a).length<=sz/\k (.lst (xs.drop a)) M:=by
 have e:cut xs (min a xs.length) xs.length=xs.drop a:=by
  unfold cut
  rcases Nat.le_total a xs.length with h|h
  ·rw [Nat.min_eq_left h,List.take_of_length_le (by simp)]
  ·rw [Nat.min_eq_right h];simp [List.drop_eq_nil_of_le h]
 show aj (match aV xs.length 0 (.int a),aV xs.length xs.length D.non with|some l,some h=>bT false (cut xs l h) M|_,_=>.bad) k↔_
 have e2:aV xs.length 0 (.int a)=some (min a xs.length):=by
  show some _=_
  rw [if_neg (by omega)];simp
 rw [e2]
 show aj (bT false (cut xs (min a xs.length) xs.length) M) k↔_
 rw [e,cq]
theorem vp {w:Nat}{ge:GE}{Z:Env}{M:Mem}{kl:List D->Mem->Prop}(f:Nat->Nat)(hw:w<=100)(hf:∀k,k<w->ge (some (.int (k:Int))::Z) M=.ok (nD (f k)) M)(hk:kl (((List.range w).map f).map nD) M) :
 aj (dP (dR (.one 0) (cF ge) (none::Z)) (fun _=>some ((List.range w).map fun (k:Nat)=>D.int (k:Int))) [] M) kl:=by
 refine nV (ds:=(List.range w).map fun (k:Nat)=>D.int (k:Int)) (fun d=>match d with|.int i=>nD (f i.toNat)|_=>.non) (aM (by simp;omega)) rfl (fun d hd=>?_) ?_
 ·obtain ⟨k,hk,rfl⟩:=List.mem_map.mp hd
  exact ⟨_,rfl,hf k (List.mem_range.mp hk)⟩
 ·simpa [Function.comp_def] using hk
theorem v3 {w:Nat}{f:Nat->Nat}(hf:∀k,k<w->f k<w):hZ w ((List.range w).map f):=⟨by simp,fun x hx=>by
 obtain ⟨k,hk,rfl⟩:=List.mem_map.mp hx
 exact hf k (List.mem_range.mp hk)⟩
section
variable {P:Nat->Option Df}(h:HasP0 P){M:Mem}
include h
theorem Ds (n:Nat){p B:Nat}(hp:aQ M p B):aj (av P (n+1) 30 [.cell p] M) fun d M'=>d=.cell p/\aQ M' p B/\bI p M M':=by
 obtain ⟨c,cells,a,st,e1,e2,lt,a0,aB,s0⟩:=hp.ex
 have ne:c≠p:=tqk lt
 have hpl:p<M.length:=(List.getElem?_eq_some_iff.mp e1).1
 refine aK h.law_anew rfl ?_
 simp [jE,e1,HH]
 refine ⟨⟨c,cells,a,0,by simp [hpl],?_,lt,a0,aB,by omega⟩,bI.set⟩
 rw [List.getElem?_set_ne (Ne.symm ne)];exact e2
theorem tk (n:Nat){p B many:Nat}{k:D->Mem->Prop}(hp:aQ M p B)(hB:B<=1000000)(h0:0<many)(h1:many<=10000000)(hk:∀(v:Nat) (M':Mem),v<many->aQ M' p (B+1)->bI p M M'->k (nD v) M'):aj (av P (n+2) 31 [.cell p,nD many] M) k:=
 bo (v5 h n hp hB h0 h1) fun d M' ⟨v,e,hv,hp',hk'⟩=>by subst e;exact hk v M' hv hp' hk'
end
theorem bd {B c k m:Nat}(h:B<=c)(e:c+k<=m):B+k<=m:=tqh (Nat.add_le_add_right h k) e
theorem xV {B k m:Nat}(e:k<=m):B+k<=B+m:=Nat.add_le_add_left e B
theorem oq {xs:List D}{v:Nat}{M:Mem}(h:v<xs.length):fq (.lst xs) (nD v) M=some xs[v]:=by
 show (bV xs.length (v:Int)).bind (fun j=>xs[j]?)=_
 rw [gq h]
 simp [h]
theorem xQ {Z:Env}{M:Mem}{j v c:Nat}(h:Z[j]?.getD none=some (nD v)):(aL (a7 .lt (ag j) (gC (.int (c:Int)))):GT) Z M=.ok (decide (v<c)) M:=by
 refine aO ?_
 simp only [jw,iU,bt,dM]
 refine ⟨_,h,_,rfl,_,rfl,?_,trivial⟩
 simp
theorem j6 {Z:Env}{M:Mem}{j v c:Nat}(h:Z[j]?.getD none=some (nD v)):(aL (a7 .eq (ag j) (gC (.int (c:Int)))):GT) Z M=.ok ((v:Int)==(c:Int)) M:=by
 refine aO ?_
 simp only [jw,iU,bt,dM]
 exact ⟨_,h,_,rfl,_,rfl,rfl,trivial⟩
section
variable {Z:Env}{M:Mem}{g a:GE}{rest:GS}{kf:Fl->Mem->Prop}
section
variable {P:Nat->Option Df}(hp_:HasP0 P)(n:Nat){i j p B many:Nat}(hj:Z[j]?.getD none=some (.cell p))(hg:g Z M=.ok (nD many) M)(hp:aQ M p B)(hB:B<=1000000)(h0:0<many)(h1:many<=10000000)
include hp_ hj hg hp hB h0 h1
theorem jN:aj (az 31 (av P (n+2)) (af (ag j) (af g au)) Z M) fun d M'=>∃v:Nat,d=nD v/\v<many/\aQ M' p (B+1)/\bI p M M':=by
 rw [dU (aZ (bA hj) (aZ hg rfl))]
 exact v5 hp_ n hp hB h0 h1
theorem gn (hk:∀(v:Nat) (M':Mem),v<many->aQ M' p (B+1)->bI p M M'->aj (rest (Z.set i (some (nD v))) M') kf):aj (ai (aU (.one i) (az 31 (av P (n+2)) (af (ag j) (af g au)))) rest Z M) kf:=by
 refine dY (jN hp_ n hj hg hp hB h0 h1) ?_
 rintro x M' ⟨v,rfl,a,b,c⟩
 exact hk v M' a b c
theorem B0 {xs:List D}(hl:a Z M=.ok (.lst xs) M)(hz:xs.length=many):aj (a8 a (az 31 (av P (n+2)) (af (ag j) (af g au))) Z M) fun d M'=>d∈xs/\aQ M' p (B+1)/\bI p M M':=by
 unfold a8
 rw [hl,bL,gK,bL]
 refine bo (jN hp_ n hj hg hp hB h0 h1) ?_
 rintro x M' ⟨v,rfl,a,b,c⟩
 rw [oq (by omega)]
 exact ⟨List.getElem_mem _,b,c⟩
end
end
section
variable {Z:Env}{M:Mem}{k:D->Mem->Prop}
theorem kD {e:GE}{K:Fl->Mem->Prop}(h:aj (e Z M) fun x M=>K (.ret x) M):aj (ai (aW e) aw Z M) K:=by
 simp only [aR,cB]
 exact h
theorem zL {e:GE}{j v w:Nat}(he:e Z M=.ok (nD v) M)(hj:Z[j]?.getD none=some (nD w))(hw:0<w):aH false .mod e (ag j) Z M=.ok (nD (v % w)) M:=by
 unfold aH
 rw [he]
 show (ag j Z M).bind _=_
 rw [bA hj]
 show (if (0:Int)<(w:Int) then Res.ok (D.int ((v:Int) % (w:Int))) M else .bad)=_
 rw [if_pos (by omega)]
 rfl
theorem r9 {e f:GE}{v w:Nat}(he:e Z M=.ok (nD v) M)(hf:f Z M=.ok (nD w) M):aH false .add e f Z M=.ok (nD (v+w)) M:=by
 unfold aH
 rw [he]
 show (f Z M).bind _=_
 rw [hf]
 rfl
theorem Fi {e:GE}{v c:Nat}(he:e Z M=.ok (nD v) M)(hc:c<=v):aH false .sub e (gC (.int (c:Int))) Z M=.ok (nD (v-c)) M:=by
 unfold aH
 rw [he]
 show Res.ok (D.int ((v:Int)-(c:Int))) M=_
 rw [<- Int.ofNat_sub hc]
end
section
variable {P:Nat->Option Df}(h:HasP P){M:Mem}
include h
theorem yV (n:Nat){p B w:Nat}(hp:aQ M p B)(hB:B<=900000)(w2:2<=w)(w4:w<=4):aj (av P (n+3) 32 [.cell p,nD w] M) fun d M'=>∃t,d=bg t/\hZ w t/\aQ M' p (B+7)/\bI p M M':=by
 have w0:0<w:=tqi (by decide) w2
 have wM:w<=10000000:=tqh w4 (tqq rfl)
 refine aK h.law_tab rfl ?_
 show aj (iY (av P (n+2)) [some (.cell p),some (nD w),none,none,none,none] M) _
 unfold iY
 refine gn h n (many:=6) rfl rfl hp (tqh hB (by decide)) (by decide) (by decide) fun kind M1 hk p1 k1=>?_
 refine gn h n (many:=w) rfl rfl p1 (bd (k:=1) hB (by decide)) w0 wM fun word M2 hw p2 k2=>?_
 refine gn h n (many:=w) rfl rfl p2 (bd (k:=2) hB (by decide)) w0 wM fun other M3 ho p3 k3=>?_
 have K3:=(k1.trans k2).trans k3
 have fin:∀(l:List Nat) (M':Mem),hZ w l->aQ M' p (B+7)->bI p M M'->(l.map nD).length<=sz/\∃t,D.tup (l.map nD)=bg t/\hZ w t/\aQ M' p (B+7)/\bI p M M':=fun l M' hl hp' hk'=>⟨aM (by rw [List.length_map,hl.1];omega),l,rfl,hl,hp',hk'⟩
 have p7:aQ M3 p (B+7):=p3.mono (xV (k:=3) (by decide))
 show aj (ai _ _ [some (.cell p),some (nD w),some (nD kind),some (nD word),some (nD other),none] M3) _
 refine dZ (xQ (c:=2) rfl) (fun _=>?_) fun _=>?_
 ·simp only [aR,cB,ff,bw,bN,lg,kj,bt]
  refine ⟨_,rfl,_,rfl,⟨by omega,by omega⟩,?_⟩
  refine comp_map (ds:=(List.range w).map fun (k:Nat)=>D.int (k:Int)) (fun i acc M'=>∃t:List Nat,acc=t.map nD/\(∀x∈t,x<w)/\aQ M' p (B+3+i)/\bI p M M') (aM (by simp;omega)) (fun _ _ _ _=>rfl) ⟨[],rfl,(fun _ hx=>nomatch hx),p3,K3⟩ ?_ ?_
  ·rintro i d acc M' hd _ ⟨t,rfl,ht,hp',hk'⟩
   have hi:i<w:=by
    have:=(List.getElem?_eq_some_iff.mp hd).1
    simpa using this
   refine ⟨_,rfl,bo (jN h n (many:=w) rfl rfl hp' (by omega) w0 wM) ?_⟩
   rintro _ M4 ⟨v,rfl,hv,p4,k4⟩
   refine ⟨t++[v],by rw [List.map_append];rfl,fun x hx=>?_,p4,hk'.trans k4⟩
   rcases List.mem_append.mp hx with z|z
   ·exact ht x z
   ·rw [List.mem_singleton.mp z];exact hv
  ·rintro acc M' hl ⟨t,rfl,ht,hp',hk'⟩
   simp only [List.length_map,List.length_range] at hl hp'
   exact cq.mpr (fin t M' ⟨hl,ht⟩ (hp'.mono (by omega)) hk')
 refine dZ (j6 (c:=2) rfl) (fun _=>?_) fun _=>?_
 ·simp only [aR,cB,ff,bw,bN,lg,kj,bt]
  refine ⟨_,rfl,_,rfl,⟨by omega,by omega⟩,?_⟩
  exact vp (fun k=>(k+1+word) % w) (by omega) (fun k hk=>zL (r9 (r9 (bA rfl) rfl) (bA rfl)) rfl w0) (cq.mpr (fin _ M3 (v3 fun k _=>Nat.mod_lt _ w0) p7 K3))
 refine dZ (j6 (c:=3) rfl) (fun _=>?_) fun _=>?_
 ·simp only [aR,cB,ff,bw,bN,lg,kj,bt]
  refine ⟨_,rfl,_,rfl,⟨by omega,by omega⟩,?_⟩
  refine vp (fun k=>if k=word then other else k) (by omega) (fun k hk=>?_) (cq.mpr (fin _ M3 (v3 fun k hk=>by split<;>assumption) p7 K3))
  have e:(aL (a7 .eq (ag 0) (ag 4)):GT) [some (.int (k:Int)),some (.cell p),some (nD w),some (nD kind),some (nD word),some (nD other),none] M3=.ok ((k:Int)==(word:Int)) M3:=rfl
  by_cases ck:k=word
  ·rw [if_pos ck]
   exact js (k:=true) (e.trans (by rw [ck,beq_self_eq_true])) (fun _=>rfl) (fun z=>nomatch z)
  ·rw [if_neg ck]
   exact js (k:=false) (e.trans (by rw [beq_eq_false_iff_ne.mpr (by omega)])) (fun z=>nomatch z) (fun _=>rfl)
 refine dZ (j6 (c:=4) rfl) (fun _=>kD ?_) fun _=>?_
 ·simp only [eE,jB,bw,bN,bt]
  refine ⟨_,rfl,aM (n:=1) (by decide),_,rfl,Hq.mpr ⟨⟨aM (by simp;omega),by omega,by omega⟩,List.replicate w word,?_,⟨List.length_replicate,fun x hx=>by rw [List.eq_of_mem_replicate hx];exact hw⟩,p7,K3⟩⟩
  simp [bg,nD]
 ·simp only [aR,gp,EB,bt,Fw,cB,ff,bw,bN,eJ]
  simp
  refine ⟨by omega,aM (by omega),word,gq hw,other,gq ho,((List.range w).set word other).set other word,?_,⟨by simp,fun x hx=>?_⟩,p7.app,K3.trans bI.app⟩
  ·simp [bg,nD,List.map_set]
  ·rcases List.mem_or_eq_of_mem_set hx with z|rfl
   ·rcases List.mem_or_eq_of_mem_set z with y|rfl
    ·exact List.mem_range.mp y
    ·exact ho
   ·exact hw
theorem A3 (n:Nat){p B w pl:Nat}(hp:aQ M p B)(hB:B<=800000)(w2:2<=w)(w4:w<=4)(p1:1<=pl)(p2:pl<=2):aj (av P (n+4) 33 [.cell p,nD w,nD pl] M) fun d M'=>∃e:bq,d=e.d/\cT w pl e/\aQ M' p (B+40)/\bI p M M':=by
 have pM:pl<=10000000:=tqh p2 (tqq rfl)
 refine aK h.law_deed rfl ?_
 show aj (gZ (av P (n+3)) [some (.cell p),some (nD w),some (nD pl),none,none,none,none] M) _
 unfold gZ
 refine gn h (n+1) (many:=8) rfl rfl hp (tqh hB (by decide)) (by decide) (by decide) fun kind M1 hk q1 k1=>?_
 refine dY (k:=fun d M'=>∃v:Nat,d=nD (1+v)/\v<3/\aQ M' p (B+2)/\bI p M1 M') ?_ ?_
 ·rw [eE]
  simp only [dM]
  refine bo (jN h (n+1) (many:=3) rfl rfl q1 (bd (k:=1) hB (by decide)) (by decide) (by decide)) ?_
  rintro _ M2 ⟨v,rfl,hv,q,kk⟩
  exact gE.mpr ⟨v,by show D.int (1+(v:Int))=D.int ((1+v:Nat):Int);rw [Int.natCast_add];rfl,hv,q,kk⟩
 rintro _ M2 ⟨price,rfl,hc,q2,k2⟩
 refine gn h (n+1) (many:=pl) rfl rfl q2 (bd (k:=2) hB (by decide)) p1 pM fun at_ M3 ha q3 k3=>?_
 refine gn h (n+1) (many:=pl) rfl rfl q3 (bd (k:=3) hB (by decide)) p1 pM fun other M4 ho q4 k4=>?_
 have K4:=((k1.trans k2).trans k3).trans k4
 have co:fQ (1+price):=⟨by omega,by omega⟩
 have q40:aQ M4 p (B+40):=q4.mono (xV (k:=4) (by decide))
 show aj (ai _ _ [some (.cell p),some (nD w),some (nD pl),some (nD kind),some (nD (1+price)),some (nD at_),some (nD other)] M4) _
 refine dZ (xQ (c:=3) rfl) (fun _=>kD ?_) fun _=>?_
 ·simp only [jB,bw,bN,dM,bt,fu]
  refine ⟨_,rfl,_,rfl,_,rfl,bo (yV h n q4 (bd (k:=4) hB (by decide)) w2 w4) fun d M' ⟨t,e,ht,hp',hk'⟩=>⟨_,rfl,aM (n:=4) (by decide),.turn at_ t (1+price),?_,⟨ha,ht,co⟩,hp'.mono (xV (k:=11) (by decide)),K4.trans hk'⟩⟩
  subst e;rfl
 refine dZ (xQ (c:=5) rfl) (fun _=>kD ?_) fun _=>?_
 ·obtain ⟨o,eo,ho'⟩:∃o:Nat,gV (aL (a7 .eq (ag 3) (gI 3))) (aH false .mod (aH false .add (ag 5) (gI 1)) (ag 2)) (ag 6) [some (.cell p),some (nD w),some (nD pl),some (nD kind),some (nD (1+price)),some (nD at_),some (nD other)] M4=.ok (nD o) M4/\o<pl:=by
   have e:(aL (a7 .eq (ag 3) (gI 3)):GT) [some (.cell p),some (nD w),some (nD pl),some (nD kind),some (nD (1+price)),some (nD at_),some (nD other)] M4=.ok ((kind:Int)==3) M4:=j6 (c:=3) rfl
   cases q:(kind:Int)==3 with
   |true=>rw [q] at e;exact ⟨(at_+1) % pl,js e (fun _=>zL (w:=pl) (r9 (v:=at_) (w:=1) (bA rfl) rfl) rfl p1) (fun z=>nomatch z),Nat.mod_lt _ p1⟩
   |false=>rw [q] at e;exact ⟨other,js e (fun z=>nomatch z) (fun _=>bA rfl),ho⟩
  simp only [jB,bw,bN,dM,bt]
  refine ⟨_,rfl,?_⟩
  rw [eo,gK]
  exact ⟨_,rfl,aM (n:=4) (by decide),.move at_ o (1+price),rfl,⟨ha,ho',co⟩,q40,K4⟩
 refine dZ (j6 (c:=5) rfl) (fun _=>kD ?_) fun _=>?_
 ·simp only [jB,bw,bN,dM]
  show aj (av P (n+3) 31 [.cell p,nD w] M4) _
  refine tk h (n+1) q4 (bd (k:=4) hB (by decide)) (tqi (by decide) w2) (tqh w4 (tqq rfl)) fun v M5 hv q5 k5=>?_
  exact ⟨aM (n:=4) (by decide),.put at_ v (1+price),rfl,⟨ha,hv,co⟩,q5.mono (xV (k:=5) (by decide)),K4.trans k5⟩
 ·simp only [aR,cB,jB,bw,bN,dM,ff,lg,kj,bt]
  refine ⟨_,rfl,_,rfl,_,rfl,_,rfl,⟨by omega,by omega⟩,?_⟩
  refine comp_map (ds:=(List.range w).map fun (k:Nat)=>D.int (k:Int)) (fun i acc M'=>∃t:List (List Nat),acc=t.map bg/\(∀x∈t,hZ w x)/\aQ M' p (B+4+i*7)/\bI p M M') (aM (by simp;omega)) (fun _ _ _ _=>rfl) ⟨[],rfl,(fun _ hx=>nomatch hx),q4,K4⟩ ?_ ?_
  ·rintro i d acc M' hd _ ⟨t,rfl,ht,hp',hk'⟩
   have hi:i<w:=by
    have:=(List.getElem?_eq_some_iff.mp hd).1
    simpa using this
   refine ⟨_,rfl,?_⟩
   rw [dU (aZ (bA rfl) (aZ (bA rfl) rfl))]
   refine bo (yV h n hp' (by omega) w2 w4) ?_
   rintro _ M4 ⟨v,rfl,hv,p4,k4⟩
   refine ⟨t++[v],by rw [List.map_append];rfl,fun x hx=>?_,p4.mono (by omega),hk'.trans k4⟩
   rcases List.mem_append.mp hx with z|z
   ·exact ht x z
   ·rw [List.mem_singleton.mp z];exact hv
  ·rintro acc M' hl ⟨t,rfl,ht,hp',hk'⟩
   simp only [List.length_map,List.length_range] at hl hp'
   exact cq.mpr ⟨aM (by rw [List.length_map];omega),_,rfl,aM (n:=5) (by decide),.join at_ other t (1+price),rfl,⟨ha,ho,⟨hl,ht⟩,co⟩,hp'.mono (by omega),hk'⟩
theorem w8 (n:Nat){p B W Pl mo:Nat}(hp:aQ M p B)(hB:B<=700000)(W2:2<=W)(W4:W<=4)(P1:1<=Pl)(P2:Pl<=2)(m1:1<=mo)(m6:mo<=6):aj (av P (n+5) 34 [.cell p,nD W,nD Pl,nD mo] M) fun d M'=>∃m:bu,d=m.d/\cK m/\m.words<=W/\m.places<=Pl/\m.deeds.length<=mo/\aQ M' p (B+300)/\bI p M M':=by
 refine aK h.law_machine rfl ?_
 show aj (fy (av P (n+4)) [some (.cell p),some (nD W),some (nD Pl),some (nD mo),none,none,none,none] M) _
 unfold fy
 have plus:∀{Z:Env}{M:Mem}{g:GE}{B c many:Nat}{rest:GS}{K:Fl->Mem->Prop}{i:Nat},Z[0]?.getD none=some (.cell p)->g Z M=.ok (nD many) M->aQ M p B->B<=1000000->0<many->many<=10000000->(∀(v:Nat) (M':Mem),v<many->aQ M' p (B+1)->bI p M M'->aj (rest (Z.set i (some (nD (c+v)))) M') K)->aj (ai (aU (.one i) (aH false .add (gC (.int (c:Int))) (az 31 (av P (n+4)) (af (ag 0) (af g au))))) rest Z M) K:=by
  intro Z M g B c many rest K i e0 eg hp hB h0 h1 hk
  refine dY (k:=fun d M'=>∃v:Nat,d=nD (c+v)/\v<many/\aQ M' p (B+1)/\bI p M M') ?_ ?_
  ·rw [eE]
   simp only [dM]
   refine bo (jN h (n+2) (many:=many) e0 eg hp hB h0 h1) ?_
   rintro _ M2 ⟨v,rfl,hv,q,kk⟩
   exact gE.mpr ⟨v,by show D.int ((c:Int)+(v:Int))=D.int ((c+v:Nat):Int);rw [Int.natCast_add],hv,q,kk⟩
  ·rintro _ M' ⟨v,rfl,a,b,c⟩
   exact hk v M' a b c
 refine plus (c:=2) (many:=W-1) rfl (Fi (c:=1) (bA rfl) (by omega)) hp (tqh hB (by decide)) (by omega) (by omega) fun w M1 hw q1 k1=>?_
 refine plus (c:=1) (many:=Pl) rfl (bA rfl) q1 (bd (k:=1) hB (by decide)) P1 (tqh P2 (tqq rfl)) fun pl M2 hpl q2 k2=>?_
 have pl2:p<M2.length:=q2.lt
 have K2:=k1.trans k2
 have ML:M.length<=M2.length:=K2.len
 have w2:2<=2+w:=Nat.le_add_right _ _
 have w4:2+w<=4:=by omega
 have l1:1<=1+pl:=Nat.le_add_right _ _
 have l2:1+pl<=2:=by omega
 generalize hW:2+w=w' at w2 w4
 generalize hP:1+pl=p' at l1 l2
 refine dY (k:=fun d M'=>d=.cell M2.length/\M'=M2++[[]]) ?_ ?_
 ·simp only [mL,bN]
  exact wt.mpr ⟨Nat.zero_le _,rfl,rfl⟩
 rintro _ _ ⟨rfl,rfl⟩
 show aj (ai _ _ [some (.cell p),some (nD w'),some (nD p'),some (nD mo),some (.cell M2.length),none,none,none] (M2++[[]])) _
 simp only [aR,iG,kj,eE,dM]
 refine bo (jN h (n+2) (many:=mo) rfl rfl q2.app (bd (k:=2) hB (by decide)) m1 (tqh m6 (tqq rfl))) ?_
 rintro _ M3 ⟨many,rfl,hmany,q3,k3⟩
 have e3:M3[M2.length]?=some []:=k3.get (List.getElem?_concat_length) (by omega)
 have K3:bI p M M3:=K2.trans (bI.app.trans k3)
 generalize hq:M2.length=q at *
 refine gE.mpr ⟨_,rfl,⟨by omega,by omega⟩,?_⟩
 rw [show (1+(many:Int)).toNat=1+many by omega]
 refine ft (ds:=(List.range (1+many)).map fun (k:Nat)=>D.int (k:Int)) (fun i Z M'=>∃ds:List bq,M'[q]?=some (ds.map bq.d)/\ds.length=i/\(∀d∈ds,cT w' p' d)/\aQ M' p (B+3+i*45)/\bI p M M'/\∃a b c,Z=[some (.cell p),some (nD w'),some (nD p'),some (nD mo),some (.cell q),a,b,c])
  (fun _ _ _ _=>rfl) ⟨[],e3,rfl,(fun _ hd=>nomatch hd),q3,K3,none,none,none,rfl⟩ ?_ ?_
 ·rintro i d Z M' hd ⟨ds,e4,hl,hds,q4,K4,a,b,c,rfl⟩
  have hi:i<1+many:=by
   have:=(List.getElem?_eq_some_iff.mp hd).1
   simpa using this
  have hi6:i<=5:=by omega
  have hB4:B+3+i*45<=700228:=by omega
  have hqM:M.length<=q:=ML
  have hpq:p<q:=pl2
  refine ⟨_,rfl,?_⟩
  refine gn h (n+2) (many:=5) rfl rfl q4 (tqh hB4 (by decide)) (by decide) (by decide) fun again M5 ha q5 k5=>?_
  have e5:=k5.get e4 (Nat.ne_of_gt hpq)
  refine dY (k:=fun d M'=>∃e:bq,d=e.d/\cT w' p' e/\aQ M' p (B+3+i*45+41)/\bI p M5 M') ?_ ?_
  ·rw [dU (aZ (bA rfl) (aZ (bA rfl) (aZ (bA rfl) rfl)))]
   exact bo (A3 h n (w:=w') (pl:=p') q5 (bd (k:=1) hB4 (by decide)) w2 w4 l1 l2) fun d M' ⟨e,a,b,c,d⟩=>⟨e,a,b,c,d⟩
  rintro _ M6 ⟨e,rfl,he,q6,k6⟩
  have e6:=k6.get e5 (Nat.ne_of_gt hpq)
  have K6:=(K4.trans k5).trans k6
  have hsm:(ds.map bq.d).length<sz:=Nat.lt_of_le_of_lt (show (ds.map bq.d).length<=50 by rw [List.length_map,hl];omega) (by decide)
  have fin:∀(e:bq) (M'':Mem) (x5 x6:Option D),cT w' p' e->M''[q]?=some (ds.map bq.d)->aQ M'' p (B+3+(i+1)*45)->bI p M M''->
   aj (ai (pB (ag 4) (ag 7)) aw [some (.cell p),some (nD w'),some (nD p'),some (nD mo),some (.cell q),x5,x6,some e.d] M'') fun fl M'=>∃ρ',fl=.next ρ'/\∃ds:List bq,M'[q]?=some (ds.map bq.d)/\ds.length=i+1/\(∀d∈ds,cT w' p' d)/\aQ M' p (B+3+(i+1)*45)/\bI p M M'/\∃a b c,ρ'=[some (.cell p),some (nD w'),some (nD p'),some (nD mo),some (.cell q),a,b,c]:=by
   intro e M'' x5 x6 he e7 q7 K7
   simp only [aR,FA,bt]
   refine ⟨_,rfl,_,rfl,q,ds.map bq.d,rfl,e7,hsm,_,rfl,ds++[e],?_,by rw [List.length_append,hl];rfl,fun d hd=>?_,q7.setq hpq,K7.setq hqM,_,_,_,rfl⟩
   ·rw [List.getElem?_set_self (List.getElem?_eq_some_iff.mp e7).1,List.map_append];rfl
   ·rcases List.mem_append.mp hd with z|z
    ·exact hds d z
    ·rw [List.mem_singleton.mp z];exact he
  show aj (ai _ _ [some (.cell p),some (nD w'),some (nD p'),some (nD mo),some (.cell q),some d,some (nD again),some e.d] M6) _
  have en:(aL (a7 .ne (ag 4) (bB false au)):GT) [some (.cell p),some (nD w'),some (nD p'),some (nD mo),some (.cell q),some d,some (nD again),some e.d] M6=.ok (!ds.isEmpty) M6:=by
   refine fK ?_
   unfold a7
   show (cZ M6 (bP .ne (.cell q) (.lst []) M6)).bind _=_
   rw [ne_nil e6];rfl
  refine dZ (E3 (j6 (c:=0) rfl) en) (fun cc=>?_) fun _=>fin e M6 _ _ he e6 (q6.mono (by omega)) K6
  have hpos:0<ds.length:=by
   rw [Bool.and_eq_true] at cc
   cases ds with
   |nil=>exact absurd cc.2 (by decide)
   |cons _ _=>exact Nat.succ_pos _
  simp only [aR,gp,eE,oB,lD,jB,bw,bN,CV,dM]
  have el:bG .len (af (ag 4) au) [some (.cell p),some (nD w'),some (nD p'),some (nD mo),some (.cell q),some d,some (nD again),some e.d] M6=.ok (nD ds.length) M6:=by
   refine aE ?_
   simp only [ff,bw,bN,bt]
   exact ⟨_,rfl,BP.mpr ⟨_,e6,by rw [List.length_map],rfl⟩⟩
  show aj (az 31 (av P (n+4)) (af (ag 0) (af (bG .len (af (ag 4) au)) au)) [some (.cell p),some (nD w'),some (nD p'),some (nD mo),some (.cell q),some d,some (nD again),some e.d] M6) _
  refine bo (jN h (n+2) (many:=ds.length) rfl el q6 (bd (k:=41) hB4 (by decide)) hpos (by omega)) ?_
  rintro _ M7 ⟨v,rfl,hv,q7,k7⟩
  have e7:=k7.get e6 (Nat.ne_of_gt hpq)
  refine ⟨(ds.getD v e).d,?_,1,rfl,rfl,rfl,?_⟩
  ·show (M7[q]?).bind (fun ds=>(bV ds.length (v:Int)).bind fun j=>ds[j]?)=_
   rw [e7]
   show (bV (ds.map bq.d).length (v:Int)).bind (fun j=>(ds.map bq.d)[j]?)=_
   rw [gq (by rw [List.length_map];exact hv)]
   simp [List.getD_eq_getElem?_getD,hv]
  ·refine bo (Ce (d:=ds.getD v e) (c:=e.cost) (k:=fun x M'=>aj (ai (pB (ag 4) (ag 7)) aw [some (.cell p),some (nD w'),some (nD p'),some (nD mo),some (.cell q),some d,some (nD again),some x] M') fun fl M'=>∃ρ',fl=.next ρ'/\∃ds:List bq,M'[q]?=some (ds.map bq.d)/\ds.length=i+1/\(∀d∈ds,cT w' p' d)/\aQ M' p (B+3+(i+1)*45)/\bI p M M'/\∃a b c,ρ'=[some (.cell p),some (nD w'),some (nD p'),some (nD mo),some (.cell q),a,b,c]) ?_) fun x1 M3 hx=>⟨1,rfl,nD e.cost,zV,aM (n:=1) (by decide),hx⟩
   exact fin _ M7 _ _ (AI (hds _ (getD_mem hv)) (EW he)) e7 (q7.mono (by omega)) (K6.trans k7)
 ·rintro Z M' ⟨ds,e4,hl,hds,q4,K4,a,b,c,rfl⟩
  simp only [List.length_map,List.length_range] at hl q4
  refine kD ?_
  simp only [jB,bw,bN,ff,bt]
  refine ⟨_,rfl,_,rfl,_,rfl,wY.mpr ⟨_,e4,aM (n:=3) (by decide),⟨w',p',ds⟩,rfl,⟨w2,w4,l1,l2,?_,?_,hds⟩,?_,?_,?_,q4.mono (by omega),K4⟩⟩
  ·show 1<=ds.length;omega
  ·show ds.length<=6;omega
  ·show w'<=W;omega
  ·show p'<=Pl;omega
  ·show ds.length<=mo;omega
theorem Dm (h35:P 35=some ⟨3,6,iZ⟩)(n:Nat){p B mo:Nat}{m:bu}(hm:cK m)(hp:aQ M p B)(hB:B<=700000)(hmo:mo<=40):aj (av P (n+3) 35 [.cell p,m.d,nD mo] M) fun d M'=>∃r:List Nat,d=.lst (r.map nD)/\i9 m r/\r.length<=mo/\aQ M' p (B+50)/\bI p M M':=by
 refine aK h35 rfl ?_
 have d1:=hm.d1
 have d6:=hm.d6
 simp only [iZ,aR,gp,fu,bw,bN,dM,bt,JG]
 simp only [Option.some.injEq,exists_eq_left',List.getElem?_cons_zero,List.getElem?_cons_succ,Option.getD_some,List.map_cons,List.map_nil,List.cons_append,List.nil_append,nD]
 refine tk h n (many:=4) hp (by omega) (by omega) (by omega) fun kind M1 hk q1 k1=>?_
 simp [nD]
 have core:∀(many:Nat) (M2:Mem),many<=mo->aQ M2 p (B+2)->bI p M M2->aj (dP (dR (dv.one 0) (cF (az 31 (av P (n+2)) (af (ag 1) (af (bG vG.len (af (a8 (ag 2) (gC (D.int 2))) au)) au))))
  [none,some (D.cell p),some m.d,some (D.int mo),some (D.int kind),some (D.int many),none]) (fun x=>some (List.map (fun k:Nat=>D.int k) (List.range many))) [] M2) fun acc M_2=>acc.length<=sz/\
   ((¬(kind : Int) = 1 /\ ∃ r, acc = List.map nD r /\ i9 m r /\ r.length <= mo /\ aQ M_2 p (B + 50) /\ bI p M M_2) \/ (kind : Int) = 1 /\ cw false D.non = true /\ cw true (D.int 2) = true /\
     aj (eG false (D.lst acc) D.non (D.int 2) M_2) fun x_1 M_3=>aj (fv false pb.mul x_1 (D.int many) M_3) fun x_2 M_4=>cw false D.non=true/\cw true (D.int many)=true/\
      aj (eG false x_2 D.non (D.int many) M_4) fun d M'=>∃r,d=D.lst (List.map nD r)/\i9 m r/\r.length<=mo/\aQ M' p (B+50)/\bI p M M'):=by
  intro many M2 hmany q2 k2
  refine comp_map (ds:=(List.range many).map fun (k:Nat)=>D.int (k:Int)) (fun i acc M'=>∃t:List Nat,acc=t.map nD/\(∀x∈t,x<m.deeds.length)/\aQ M' p (B+2+i)/\bI p M M') (aM (by simp;omega)) (fun _ _ _ _=>rfl) ⟨[],rfl,by simp,q2,k2⟩ ?_ ?_
  ·rintro i d acc M' hd _ ⟨t,rfl,ht,hp',hk'⟩
   have hi:i<many:=by
    have:=(List.getElem?_eq_some_iff.mp hd).1
    simpa using this
   refine ⟨_,rfl,?_⟩
   simp [-jt,Ku]
   refine tk h n hp' (by omega) (by omega) (by omega) fun v M4 hv p4 k4=>⟨t++[v],by simp,fun x hx=>?_,p4.mono (by omega),hk'.trans k4⟩
   rcases List.mem_append.mp hx with z|z
   ·exact ht x z
   ·simp at z;omega
  ·rintro acc M' hl ⟨t,rfl,ht,hp',hk'⟩
   simp at hl
   have P50:aQ M' p (B+50):=hp'.mono (by simp;omega)
   refine ⟨aM (by simp;omega),?_⟩
   by_cases c1:kind=1
   ·refine .inr ⟨by omega,rfl,rfl,(uE (a:=2)).mpr ⟨aM (by simp;omega),Hr.mpr ⟨⟨?_,by omega,by omega⟩,cq.mpr ⟨?_,rfl,rfl,uE.mpr ⟨?_,?_⟩⟩⟩⟩⟩
    ·refine tqh (Nat.mul_le_mul (show _<=2 by simp;omega) (show _<=40 by omega)) (by decide)
    ·rw [Int.toNat_natCast]
     simp
     exact tqh (Nat.mul_le_mul (show many<=40 by omega) (show min 2 t.length<=2 by omega)) (by decide)
    ·exact aM (by simp;omega)
    ·rw [Int.toNat_natCast]
     refine ⟨((List.replicate many (t.take 2)).flatten).take many,by simp [List.map_flatten,List.map_take],⟨by simp;omega,fun i hi=>?_⟩,by simp;omega,P50,hk'⟩
     have:=List.mem_of_mem_take hi
     simp only [List.mem_flatten,List.mem_replicate] at this
     obtain ⟨l,⟨_,rfl⟩,hl2⟩:=this
     exact ht i (List.mem_of_mem_take hl2)
   ·exact .inl ⟨by omega,t,rfl,⟨by omega,ht⟩,by omega,P50,hk'⟩
 by_cases c0:kind=0
 ·exact .inr ⟨c0,by omega,core mo M1 (tqg _) (q1.mono (by omega)) k1⟩
 ·refine .inl ⟨c0,?_⟩
  rw [show ((mo:Int)+1)=((mo+1:Nat):Int) by omega]
  refine tk h n q1 (by omega) (by omega) (by omega) fun many M2 hmany q2 k2=>⟨many,rfl,⟨by omega,by omega⟩,?_⟩
  exact core many M2 (by omega) q2 (k1.trans k2)
end
end LD
namespace LD
open PySem
theorem Du {xs:List D}{a b:Nat}{M:Mem}{k:D->Mem->Prop}:aj (eG false (.frz xs) (.int a) (.int b) M) k↔(cut xs (min a xs.length) (min b xs.length)).length<=sz/\k (.lst (cut xs (min a xs.length) (min b xs.length))) M:=by
 show aj (match aV xs.length 0 (.int a),aV xs.length xs.length (.int b) with|some l,some h=>bT false (cut xs l h) M|_,_=>.bad) k↔_
 have e1:aV xs.length 0 (.int a)=some (min a xs.length):=by
  show some _=_
  rw [if_neg (by omega)];simp
 have e2:aV xs.length xs.length (.int b)=some (min b xs.length):=by
  show some _=_
  rw [if_neg (by omega)];simp
 rw [e1,e2]
 exact cq
theorem A7 {xs:List D}{b:Nat}{M:Mem}{k:D->Mem->Prop}:aj (eG false (.frz xs) .non (.int b) M) k↔(cut xs 0 (min b xs.length)).length<=sz/\k (.lst (cut xs 0 (min b xs.length))) M:=by
 show aj (match aV xs.length 0 D.non,aV xs.length xs.length (.int b) with|some l,some h=>bT false (cut xs l h) M|_,_=>.bad) k↔_
 have e2:aV xs.length xs.length (.int b)=some (min b xs.length):=by
  show some _=_
  rw [if_neg (by omega)];simp
 rw [e2]
 exact cq
theorem wO {α β:Type}(f:α->β)(l:List α)(a b:Nat):cut (l.map f) a b=(cut l a b).map f:=by simp [cut,List.map_take,List.map_drop]
theorem rV {α:Type}(l:List α)(a b:Nat):(cut l a b).length<=l.length:=by simp [cut];omega
section
variable {P:Nat->Option Df}(h:HasP0 P){M:Mem}
include h
theorem Dp (n:Nat){ns:List Int}(hn:ns.length<=63):aj (av P (n+1) 29 [.frz (ns.map D.int)] []) fun d M'=>d=.cell 1/\aQ M' 1 0:=by
 refine aK h.law_open rfl ?_
 simp [jD,cw]
 refine (A7 (b:=12)).mpr ⟨?_,?_⟩
 ·exact aM (tqh (rV _ _ _) (by simp;omega))
 simp only [BO,wt]
 refine ⟨aM (tqh (rV _ _ _) (by simp;omega)),(Du (a:=12) (b:=63)).mpr ⟨aM (tqh (rV _ _ _) (by simp;omega)),⟨rfl,rfl⟩,?_⟩⟩
 rw [wO,wO]
 simp only [List.length_map,List.length_nil,List.nil_append]
 have e63:min 63 ns.length=ns.length:=by omega
 rw [e63]
 refine ft (ds:=dn 0 ((cut ns (min 12 ns.length) ns.length).map D.int)) (fun i Z M'=>∃l:List Int,M'=[l.map D.int]/\l.length=min 12 ns.length/\∃a b,Z=[some (.frz (ns.map D.int)),some (.cell 0),a,b]) (fun _ _ _ _=>rfl) ⟨cut ns 0 (min 12 ns.length),rfl,by simp [cut],none,none,rfl⟩ ?_ ?_
 ·rintro i d Z M' hd ⟨l,rfl,hl,a,b,rfl⟩
  rw [eR,List.getElem?_map] at hd
  cases e:(cut ns (min 12 ns.length) ns.length)[i]? with
  |none=>rw [e] at hd;cases hd
  | some x =>
    rw [e] at hd
    have hd:D.tup [.int ((0+i:Nat):Int),.int x]=d:=Option.some.inj hd
    subst hd
    have hi:=(List.getElem?_eq_some_iff.mp e).1
    have hlen:12<ns.length:=by
     by_cases c:12<ns.length
     ·exact c
     ·have:min 12 ns.length=ns.length:=by omega
      rw [this] at hi
      simp [cut] at hi
    have l12:l.length=12:=by omega
    have r1:=Int.emod_nonneg (i:Int) (show (12:Int)≠0 by decide)
    have r2:=Int.emod_lt_of_pos (i:Int) (show (0:Int)<12 by decide)
    obtain ⟨y,ey⟩:=rM (l:=l) r1 (by rw [l12];exact r2)
    obtain ⟨k,ek⟩:∃k:Nat,(i:Int) % 12=(k:Int):=⟨((i:Int) % 12).toNat,by omega⟩
    refine ⟨_,rfl,?_⟩
    simp
    rw [ek] at ey ⊢
    have hk:k<l.length:=by omega
    refine ⟨_,ey,?_⟩
    simp only [gE]
    refine ⟨l.map D.int,rfl,k,?_,l.set k (y+x),?_,by simp [hl]⟩
    ·simpa using gq hk
    ·simp [List.map_set]
 ·rintro Z M' ⟨l,rfl,hl,a,b,rfl⟩
  simp
  exact ⟨by decide,⟨0,l,0,0,rfl,rfl,by decide,by decide,by decide,by decide⟩⟩
end
end LD
namespace LD
open PySem
theorem Sub.pen {p B:Nat}{M M':Mem}(h:Sub M M')(hp:aQ M p B):aQ M' p B:=by
 obtain ⟨c,cells,a,st,e1,e2,r⟩:=hp.ex
 exact ⟨c,cells,a,st,h.get e1,h.get e2,r⟩
theorem uP (n:Nat)(l:List Nat):aG (n+1) (bg l)=true:=by
 show (l.map nD).all (aG n)=true
 rw [List.all_eq_true];intro x hx;obtain ⟨i,_,rfl⟩:=List.mem_map.mp hx;cases n<;>rfl
end LD
namespace LD
open PySem
structure oN (P:Nat->Option Df):Prop where
 same:P 40=some ⟨2,2,dF⟩
theorem se:∀ds:List D,jQ ds ds=ds.map fun d=>.tup [d,d]
 |[]=>rfl
 |d::r=>by simp [jQ,se r]
theorem xF {ds:List D}{M:Mem}:bP .notin (.bl false) (.lst (ds.map fun _=>.bl true)) M=some true:=by
 show ((cm M (.lst (ds.map fun _=>.bl true))).bind (iQ (view M (.bl false)))).map (!·)=_
 show (iQ (.bl false) (ds.map fun _=>.bl true)).map (!·)=_
 unfold iQ
 rw [if_pos]
 ·have:(ds.map fun _=>D.bl true).any (fun y=>bC y (.bl false))=false:=by
   rw [List.any_eq_false];intro x hx;obtain ⟨_,_,rfl⟩:=List.mem_map.mp hx;simp [bC]
  rw [this];rfl
 ·simp [aG]
@[simp] theorem BN {m:Bool}{ds:List D}{M:Mem}{k:D->Mem->Prop}:aj (gv (.list m) [.tup ds] M) k↔aj (bT m ds M) k:=Iff.rfl
theorem cL {x y:Str}{b:Bool}(e:qH (.str x) (.str y)=some b)(M:Mem):bP .eq (.str x) (.str y) M=some b:=by
 show l7 M (.str x) (.str y)=some b
 unfold l7
 rw [show qH (view M (.str x)) (view M (.str y))=some b from e]
def uI (c:Call):GS:=ai (bf (aL (a7 .ne (bG .len (af (ag 0) au)) (bG .len (af (ag 1) au)))) rF aw) (ai (aW (a7 .notin wH (cG false 2 (.tup [0,1]) (ot (ag 0) (ag 1)) (cF (az 40 c (af (ag 0) (af (ag 1) au))))))) aw)
section
variable {P:Nat->Option Df}(h:oN P){M:Mem}
include h
theorem zd (n:Nat){x y:D}{ds:List D}{Z:Env}{kl:List D->Mem->Prop}(hx:cm M x=some ds)(hy:cm M y=some ds)(hz:ds.length<=sz)(hs:∀d∈ds,av P n 40 [d,d] M=.ok (.bl true) M)(hk:kl (ds.map fun _=>.bl true) M) :
 aj (dP (dR (.tup [0,1]) (cF (az 40 (av P n) (af (ag 0) (af (ag 1) au)))) (none::none::Z)) (oa x y) [] M) kl:=by
 refine nV (ds:=ds.map fun d=>.tup [d,d]) (fun _=>.bl true) (by simpa using hz) ?_ ?_ ?_
 ·simp [oa,hx,hy,se]
 ·intro d hd
  obtain ⟨e,he,rfl⟩:=List.mem_map.mp hd
  refine ⟨_,rfl,?_⟩
  refine aE ?_
  simp
  rw [hs e he]
  exact ⟨rfl,rfl⟩
 ·simpa [Function.comp_def] using hk
theorem A9 (n:Nat){x y:D}{ds:List D}(hx:cm M x=some ds)(hy:cm M y=some ds)(lx:gv .len [x] M=.ok (.int ds.length) M)(ly:gv .len [y] M=.ok (.int ds.length) M)(sx:dS x=true)(sy:dS y=true)(hz:ds.length<=sz)(hs:∀d∈ds,av P n 40 [d,d] M=.ok (.bl true) M) :
 aj (uI (av P n) [some x,some y] M) (jU fun d M'=>d=.bl true/\M'=M):=by
 simp [uI,lx,ly,sx,sy]
 exact zd h n hx hy hz hs ⟨by simpa using hz,xF,rfl⟩
end
end LD
namespace LD
open PySem
section
variable {Z:Env}{M:Mem}{a b d:GE}{k:D->Mem->Prop}{kw:Walk->Mem->Prop}{kf:Fl->Mem->Prop}
@[simp] theorem Ms:aj (qB a b d Z M) kw↔aj (a Z M) fun x M=>aj (b Z M) fun y M=>aj (d Z M) fun z M=>(dS x&&dS y&&dS z)=true/\kw (n9 x y z) M:=by
 simp only [qB,bL];refine iff_of_eq ?_;congr 1;funext x M;congr 1;funext y M;congr 1;funext z M;split<;>simp_all
@[simp] theorem CU {m:Bool}:aj (mJ m a Z M) k↔aj (a Z M) fun x M=>aj (xf m x M) k:=by simp [mJ]
@[simp] theorem DD {m:Bool}{xs:List D}:aj (xf m (.lst xs) M) k↔aj (bT m xs.reverse M) k:=Iff.rfl
@[simp] theorem DC {m:Bool}{xs:List D}:aj (xf m (.tup xs) M) k↔k (.tup xs.reverse) M:=Iff.rfl
theorem wI {t:dv}{w:Walk}{gb:GS}{ds:List D}(I:Nat->Env->Mem->Prop)(R:D->Mem->Prop)(hw:∀i Z M,I i Z M->w M=some ds)(hwR:∀d M,R d M->w M=some ds)(h0:I 0 Z M)
 (hs:∀i d Z M,ds[i]?=some d->I i Z M->∃ρ1,cX t d Z=some ρ1/\aj (gb ρ1 M) fun fl M=>(∃ρ',fl=.next ρ'/\I (i+1) ρ' M)\/∃d,fl=.ret d/\R d M) (hk:∀Z M,I ds.length Z M->kf (.next Z) M) (hr:∀d M,R d M->kf (.ret d) M) :
 aj (dP (iw t gb) w (.next Z) M) kf:=by
 refine ic (fun i fl M=>(∃Z,fl=.next Z/\I i Z M)\/∃d,fl=.ret d/\R d M) (fun i fl M h=>h.elim (fun ⟨Z,_,h⟩=>hw i Z M h) fun ⟨d,_,h⟩=>hwR d M h) (.inl ⟨Z,rfl,h0⟩) ?_ ?_
 ·rintro i d fl M hd (⟨Z,rfl,hI⟩|⟨d',rfl,hR⟩)
  ·obtain ⟨ρ1,e,h⟩:=hs i d Z M hd hI
   simp only [iw,bL,kO,e]
   exact ⟨ρ1,rfl,h⟩
  ·exact .inr ⟨d',rfl,hR⟩
 ·rintro fl M (⟨Z,rfl,hI⟩|⟨d,rfl,hR⟩)
  ·exact hk Z M hI
  ·exact hr d M hR
end
theorem Iv (i j:Nat):bC (nD i) (nD j)=decide (i=j):=by
 show ((i:Int)==(j:Int))=_
 rw [Bool.eq_iff_iff];simp;omega
theorem Aq:∀l r:List Nat,lP (l.map nD) (r.map nD)=decide (l=r)
 |[],[]=>rfl
 |[],_::_=>rfl
 |_::_,[]=>rfl
 | i :: l, j :: r => by
   show (bC (nD i) (nD j)&&lP (l.map nD) (r.map nD))=_
   rw [Iv,Aq l r,Bool.eq_iff_iff];simp
theorem Iw (l r:List Nat):bC (bg l) (bg r)=decide (l=r):=Aq l r
theorem vC {l r:List Nat}{M:Mem}:bP .ne (bg l) (bg r) M=some (!decide (l=r)):=oH (uP 63 l) (uP 63 r) (Iw l r)
def kN (m:bu)(a b:List Nat):Option (List Nat):=(dB m).find? fun s=>!decide (dJ m a s=dJ m b s)
def Bs:Option (List Nat)->D
 |some s=>bg s
 |none=>.non
theorem pd {α:Type}(f g e:α->D):∀l:List α,gG (l.map f) (l.map g) (l.map e)=l.map fun s=>.tup [f s,g s,e s]
 |[]=>rfl
 |a::l=>by simp [gG,pd f g e l]
theorem zr {m:bu}{a b:List Nat}{i:Nat}{s:List Nat}(hi:(dB m)[i]?=some s)(h:∀t∈(dB m).take i,dJ m a t=dJ m b t)(hs:dJ m a s≠dJ m b s):kN m a b=some s:=by
 have e:dB m=(dB m).take i++s::(dB m).drop (i+1):=by
  obtain ⟨h1,h2⟩:=List.getElem?_eq_some_iff.mp hi
  rw [<- h2,<- List.drop_eq_getElem_cons h1,List.take_append_drop]
 unfold kN
 rw [e,List.find?_append]
 have:((dB m).take i).find? (fun s=>!decide (dJ m a s=dJ m b s))=none:=by
  rw [List.find?_eq_none];intro t ht;simp [h t ht]
 rw [this]
 simp [List.find?_cons,hs]
theorem zq {m:bu}{a b:List Nat}(h:∀t∈dB m,dJ m a t=dJ m b t):kN m a b=none:=by
 unfold kN
 rw [List.find?_eq_none];intro t ht;simp [h t ht]
structure Cr (P:Nat->Option Df):Prop where
 h15:P 15=some ⟨1,6,dN⟩
 h27:P 27=some ⟨2,2,dE⟩
 h46:P 46=some ⟨2,2,gD⟩
 parted:P 48=some ⟨3,8,eZ⟩
section
variable {P:Nat->Option Df}{M:Mem}
theorem uz (h:HasM P)(ha:Cr P)(n:Nat){m:bu}{x y:D}{a b:List Nat}(hx:eF M x a)(hy:eF M y b)(hm:cK m)(h1:i9 m a)(h2:i9 m b):aj (av P (n+12) 48 [m.d,x,y] M) fun d M'=>d=Bs (kN m a b)/\Sub M M':=by
 have b1:=nt h ha.h15 ha.h27 ha.h46 n hx hm h1
 have b2:=nt h ha.h15 ha.h27 ha.h46 n (hy.sub (Sub.app (X:=(dB m).map fun s=>(eW m a s).map bg))) hm h2
 generalize hM2:(M++(dB m).map fun s=>(eW m a s).map bg)++((dB m).map fun s=>(eW m b s).map bg)=M2 at b2
 have S2:Sub M M2:=by subst hM2;rw [List.append_assoc];exact Sub.app
 have bb:=v9 h.toHasM0 ha.h15 (n+2) (M:=M2) hm
 refine aK ha.parted rfl ?_
 simp [eZ,b1,b2,bb,dS]
 refine ⟨⟨rfl,rfl⟩,?_⟩
 refine wI (ds:=(dB m).map fun s=>.tup [bg s,bg (dJ m a s),bg (dJ m b s)]) (fun i Z M'=>(∀t∈(dB m).take i,dJ m a t=dJ m b t)/\Sub M M'/\∃x5 x6 x7,Z=[some m.d,some x,some y,some (nX m a),some (nX m b),x5,x6,x7]) (fun d M'=>d=Bs (kN m a b)/\Sub M M') ?_ ?_ ⟨by simp,S2,none,none,none,rfl⟩ ?_ ?_ ?_
 ·rintro i Z M' _
  simp [n9,cm,nX,pd]
 ·rintro d M' _
  simp [n9,cm,nX,pd]
 ·rintro i d Z M' hd ⟨hp,S',x5,x6,x7,rfl⟩
  rw [List.getElem?_map] at hd
  cases e:(dB m)[i]? with
  |none=>rw [e] at hd;cases hd
  | some s =>
    rw [e] at hd
    cases Option.some.inj hd
    refine ⟨_,rfl,?_⟩
    by_cases c:dJ m a s=dJ m b s
    ·simp [vC,c]
     refine ⟨?_,S'⟩
     intro t ht
     rw [List.take_succ,e] at ht
     rcases List.mem_append.mp ht with z|z
     ·exact hp t z
     ·simp at z;subst z;exact c
    ·simp [vC,c]
     exact ⟨by rw [zr e hp c];rfl,S'⟩
 ·rintro Z M' ⟨hp,S',x5,x6,x7,rfl⟩
  simp at hp ⊢
  exact ⟨by rw [zq (by simpa [List.take_of_length_le] using hp)];rfl,S'⟩
 ·rintro d M' ⟨rfl,S'⟩
  simp [S']
theorem y4 (h:HasM P)(ha:Cr P)(n:Nat){m:bu}{a b:List Nat}(hm:cK m)(h1:i9 m a)(h2:i9 m b):aj (av P (n+12) 48 [m.d,qX a,qX b] M) fun d M'=>d=Bs (kN m a b)/\Sub M M':=uz h ha n .l .l hm h1 h2
end
end LD
namespace LD
open PySem
theorem wa {xs:List D}{a:Nat}{M:Mem}{k:D->Mem->Prop}:aj (eG false (.lst xs) .non (nD a) M) k↔(xs.take a).length<=sz/\k (.lst (xs.take a)) M:=uE
end LD
namespace LD
open PySem
abbrev Cp:=List Nat×List Nat
structure Kv where
 place:Nat
 num:Nat
 back:Bool
def Kv.d (s:Kv):D:=.tup [nD s.place,nD s.num,.bl s.back]
def Cp.way (r:Cp)(b:Bool):Cp:=if b then (r.2,r.1) else r
end LD
namespace LD
open PySem
theorem sV {tg:dv}{w:Walk}{gc:GT}{ge:GE}{ds:List D}{ρ0:Env}{M:Mem}{kl:List D->Mem->Prop}(f:D->Bool)(g:D->D)(hz:ds.length<=sz)(hw:w M=some ds)
 (hs:∀d∈ds,∃ρ1,cX tg d ρ0=some ρ1/\gc ρ1 M=.ok (f d) M/\(f d=true->ge ρ1 M=.ok (g d) M)) (hk:kl ((ds.filter f).map g) M):aj (dP (dR tg (oU gc (cF ge)) ρ0) w [] M) kl:=by
 refine ic (fun i acc M'=>M'=M/\acc=((ds.take i).filter f).map g) (fun i acc M' h=>by rw [h.1];exact hw) ⟨rfl,rfl⟩ ?_ ?_
 ·rintro i d acc M' hd ⟨rfl,rfl⟩
  obtain ⟨ρ1,e1,e2,e3⟩:=hs d (List.mem_of_getElem? hd)
  have hi:i<ds.length:=(List.getElem?_eq_some_iff.mp hd).1
  simp only [dR,e1,Bx,Res.bind_ok,oU,e2]
  rw [List.take_succ,hd]
  cases q:f d with
  | false =>
    simp [q]
  | true =>
    rw [if_pos rfl]
    have len:(((ds.take i).filter f).map g).length<=i:=by
     rw [List.length_map]
     exact tqh (List.length_filter_le _ _) (by simp;omega)
    simp only [cF,e3 q,Res.bind_ok]
    rw [if_pos (by omega)]
    simp [q]
 ·rintro acc M' ⟨rfl,rfl⟩
  simpa using hk
theorem pV (M:Mem):∀(n k:Nat) (d:D),aG k d=true->cP n M d=d
 |0,_,_,_=>rfl
 | n + 1, k, d, h => by
   have all:∀(k:Nat) (ds:List D),ds.all (aG k)=true->ds.map (cP n M)=ds:=fun k ds hp=>by
    rw [List.all_eq_true] at hp
    conv=>rhs;rw [<- List.map_id ds]
    exact List.map_congr_left fun d hd=>pV M n k d (hp d hd)
   cases d with
   | tup ds =>
     cases k with
     |zero=>simp [aG] at h
     |succ k=>exact congrArg D.tup (all k ds (by simpa [aG] using h))
   | lst ds =>
     cases k with
     |zero=>simp [aG] at h
     |succ k=>exact congrArg D.lst (all k ds (by simpa [aG] using h))
   |frz ds=>cases k<;>simp [aG] at h
   |cell q=>cases k<;>simp [aG] at h
   |fn f=>cases k<;>simp [aG] at h
   |exc y p=>cases k<;>simp [aG] at h
   |_=>rfl
end LD
namespace LD
open PySem
structure pO (P:Nat->Option Df):Prop where
 whole:P 67=some ⟨1,1,i6⟩
 is_in:P 68=some ⟨3,3,lh⟩
 numbers:P 69=some ⟨4,4,gO⟩
 is_deed:P 70=some ⟨3,3,bx⟩
 is_machine:P 71=some ⟨1,1,d7⟩
def pU:D->Bool
 |.int _=>true
 |_=>false
theorem eq_empty {l:List D}{M:Mem}(hp:l.all (aG 63)=true):bP .eq (.lst l) (.lst []) M=some l.isEmpty:=by
 refine rX hp rfl ?_
 cases l<;>rfl
theorem qF (f:D->Bool):∀ds:List D,((ds.filter fun d=>!f d).map fun _=>D.int 1).isEmpty=ds.all f
 |[]=>rfl
 | d :: r => by
   have ih:=qF f r
   cases q:f d with
   |true=>simpa [q] using ih
   |false=>simp [q]
theorem rD {w:GW}{gc:GT}{Z:Env}{M:Mem}{ds:List D}{k:D->Mem->Prop}(f:D->Bool)(hw:aj (w Z M) fun wk M'=>M'=M/\wk M=some ds)(hz:ds.length<=sz)(he:∀d∈ds,gc (some d::Z) M=.ok (!f d) M)(hk:k (.bl (ds.all f)) M) :
 aj (a7 .eq (cG false 1 (.one 0) w (oU gc (cF (gI 1)))) (bB false au) Z M) k:=by
 simp only [iU,lg,mL,bN,cq]
 refine bo hw fun wk M' ⟨e1,e2⟩=>?_
 subst e1
 refine sV (fun d=>!f d) (fun _=>.int 1) hz e2 (fun d hd=>⟨some d::Z,rfl,he d hd,fun _=>rfl⟩) ?_
 refine ⟨tqh (by rw [List.length_map];exact List.length_filter_le _ _) hz,aM (by decide),_,eq_empty ?_,?_⟩
 ·rw [List.all_eq_true]
  intro x hx
  obtain ⟨_,_,rfl⟩:=List.mem_map.mp hx
  rfl
 ·rw [qF];exact hk
section
variable {P:Nat->Option Df}(h:pO P){M:Mem}{k L:Nat}{d:D}
include h
theorem lq (n:Nat)(hd:Th k L d):av P (n+1) 67 [d] M=.ok (.bl (pU d)) M:=by
 refine aE (aK h.whole rfl ?_)
 cases d with
 |fn j=>cases k<;>exact hd.elim
 |exc y p=>cases k<;>exact hd.elim
 |_=>exact c8 rfl
theorem jH (n:Nat)(hd:Th k L d)(lo hi:Int):av P (n+2) 68 [d,.int lo,.int hi] M=.ok (.bl (bc lo hi d)) M:=by
 refine aE (aK h.is_in rfl ?_)
 have e:az 67 (av P (n+1)) (af (ag 0) au) [some d,some (.int lo),some (.int hi)] M=.ok (.bl (pU d)) M:=j7 rfl (lq h n (M:=M) hd)
 cases d with
 |fn j=>cases k<;>exact hd.elim
 |exc y p=>cases k<;>exact hd.elim
 |int i=>exact cV (i7 e fun _=>Ir rfl rfl rfl) ⟨rfl,rfl⟩
 |_=>exact cV (i7 (y:=false) e fun z=>by cases z) ⟨rfl,rfl⟩
def rB (many:Nat)(lo hi:Int):D->Bool
 |.tup ds=>ds.length==many&&ds.all (bc lo hi)
 |_=>false
theorem qU (n:Nat)(hd:Th k L d)(hL:L<=100){many:Nat}(lo hi:Int):av P (n+3) 69 [d,nD many,.int lo,.int hi] M=.ok (.bl (rB many lo hi d)) M:=by
 refine aE (aK h.numbers rfl ?_)
 cases d with
 |fn j=>cases k<;>exact hd.elim
 |exc y p=>cases k<;>exact hd.elim
 | tup ds =>
   have ht:=hd.tup
   simp only [gO,aR,qc,cB,eJ,uk,kF,wZ,jw,AS,dM,bt,vn,List.map_cons,List.map_nil,List.cons_append,List.nil_append,List.getElem?_cons_zero,List.getElem?_cons_succ,Option.getD_some,Option.some.injEq,exists_eq_left']
   refine ⟨true,rfl,true,rfl,?_⟩
   rw [if_neg (by decide)]
   refine iU.mpr (ff.mpr (bw.mpr (bt.mpr ⟨_,rfl,bN.mpr (oo.mpr (bt.mpr ⟨_,rfl,_,JZ,_,rfl,?_⟩))⟩)))
   by_cases el:ds.length=many
   ·have e0:(!((ds.length:Int)==(many:Int)))=false:=by simp [el]
    rw [e0,if_neg (by decide)]
    refine rD (bc lo hi) (ds:=ds) (by simp;exact ⟨rfl,rfl⟩) (aM (by omega)) (fun d hd=>aO (by simp [jH h n (ht.2 d hd)])) ?_
    exact ⟨by simp [rB,el],rfl⟩
   ·have e0:(!((ds.length:Int)==(many:Int)))=true:=by simp;omega
    rw [e0,if_pos (by decide)]
    exact ⟨by simp [rB,el],rfl⟩
 |_=>exact c8 rfl
end
abbrev dw:List D:=[.str "turn",.str "join",.str "move",.str "put"]
theorem zJ {k L:Nat}{x:D}{M:Mem}(hx:Th k L x)(hk:k<=60):bP .notin x (.tup dw) M=some (!(dw.any fun y=>bC y x)):=by
 have hp:aG 64 x=true:=(hx.mono (n':=64) (by omega) (tqg L)).pure
 have e:bP .notin x (.tup dw) M=((cm M (.tup dw)).bind (iQ (view M x))).map (!·):=by cases x<;>rfl
 rw [e,hx.view]
 show Option.map _ (iQ x dw)=_
 unfold iQ
 rw [hp,show dw.all (aG 63)=true by decide +kernel]
 rfl
section
variable {P:Nat->Option Df}(h:pO P){M:Mem}{k L:Nat}{d:D}
include h
theorem zO (n:Nat){w p:Nat}{xs:List D}(hl:xs.length≠4/\xs.length≠5):av P (n+4) 70 [.tup xs,nD w,nD p] M=.ok (.bl false) M:=by
 refine aE (aK h.is_deed rfl ?_)
 show aj (bx _ [some (.tup xs),some (nD w),some (nD p)] M) _
 unfold bx
 refine bM (aO ?_) rfl ⟨rfl,rfl⟩
 have e:bP .notin (.int xs.length) (.tup [.int 4,.int 5]) M=some true:=by
  show ((iQ (.int xs.length) [.int 4,.int 5]).map (!·))=_
  have e1:bC (.int 4) (.int xs.length)=false:=by simp [bC];omega
  have e2:bC (.int 5) (.int xs.length)=false:=by simp [bC];omega
  show (some ([D.int 4,D.int 5].any fun y=>bC y (.int xs.length))).map (!·)=_
  simp [e1,e2]
 simp [bX,e]
 exact aM (by decide)
theorem xX (n:Nat){w p:Nat}{x:D}{xs:List D}(hx:Th k L x)(hk:k<=60)(hl:xs.length=3\/xs.length=4)(hn:(dw.any fun y=>bC y x)=false):av P (n+4) 70 [.tup (x::xs),nD w,nD p] M=.ok (.bl false) M:=by
 refine aE (aK h.is_deed rfl ?_)
 show aj (bx _ [some (.tup (x::xs)),some (nD w),some (nD p)] M) _
 unfold bx
 have e:bP .notin (.int (x::xs).length) (.tup [.int 4,.int 5]) M=some false:=by
  show ((iQ (.int (x::xs).length) [.int 4,.int 5]).map (!·))=_
  show (some ([D.int 4,D.int 5].any fun y=>bC y (.int (x::xs).length))).map (!·)=_
  rcases hl with e|e<;>simp [bC,e]
 have e2:=zJ (M:=M) hx hk
 rw [hn] at e2
 refine aI (aO ?_) (bM (aO ?_) rfl ⟨rfl,rfl⟩)
 ·simp at e
  simp [bX,e]
  exact aM (by decide)
 ·simp [bV,e2]
  exact aM (by decide)
theorem C1 (n:Nat){w p:Nat}{xs:List D}{a c:D}(hL1:L+1<=100)(i1:fq (.tup xs) (.int 1) M=some a)(il:fq (.tup xs) (.int (-1)) M=some c)(ha:Th k L a)(hc:Th k L c) :
 (eK (bZ (aL (az 69 (av P (n+3)) (af (cU (af (a8 (ag 0) (gI 1)) au)) (af (gI 1) (af (gI 0) (af (aH false .sub (ag 2) (gI 1)) au))))))) (bZ (aL (az 68 (av P (n+3)) (af (a8 (ag 0) (iS (gI 1))) (af (gI 1) (af (gI 3) au)))))):GT) [some (.tup xs),some (nD w),some (nD p)] M=.ok (!(bc 0 ((p:Int)-1) a&&bc 1 3 c)) M:=by
 have q1:av P (n+3) 69 [.tup [a],.int 1,.int 0,.int ((p:Int)-1)] M=.ok (.bl (rB 1 0 ((p:Int)-1) (.tup [a]))) M:=qU h n (d:=.tup [a]) (k:=k+1) (L:=L+1) (many:=1) (show [a].length<=L+1/\∀d∈[a],Th k (L+1) d from ⟨by simp,fun d hd=>by rw [List.mem_singleton.mp hd];exact ha.mono (tqg k) (Nat.le_succ L)⟩) hL1 0 _
 have q2:=jH h (n+1) (M:=M) hc 1 3
 have z1:1<=sz:=aM (by decide)
 refine aO ?_
 simp [-jt,i1,il,q1,q2,z1,rB]
 cases bc 0 ((p:Int)-1) a<;>cases bc 1 3 c<;>simp
end
theorem Ed {M:Mem}:bP .notin (.str "turn") (.tup dw) M=some false:=by
 show (iQ (.str "turn") dw).map (!·)=_
 decide +kernel
theorem Ef {M:Mem}:bP .notin (.str "join") (.tup dw) M=some false:=by
 show (iQ (.str "join") dw).map (!·)=_
 decide +kernel
theorem Ee {M:Mem}:bP .notin (.str "move") (.tup dw) M=some false:=by
 show (iQ (.str "move") dw).map (!·)=_
 decide +kernel
theorem Hb {M:Mem}:bP .notin (.str "put") (.tup dw) M=some false:=by
 show (iQ (.str "put") dw).map (!·)=_
 decide +kernel
theorem CM {M:Mem}{x y:Bool}:bP .ne (.bl x) (.bl y) M=some (x != y):=by cases x<;>cases y<;>rfl
theorem HK {M:Mem}:bP .notin (.int 4) (.tup [.int 4,.int 5]) M=some false/\bP .notin (.int 5) (.tup [.int 4,.int 5]) M=some false:=⟨rfl,rfl⟩
section
variable {P:Nat->Option Df}(h:pO P){M:Mem}{k L:Nat}{d:D}
include h
theorem xW (n:Nat){w p:Nat}{a b c:D}(hL:L+1<=100)(ha:Th k L a)(hb:Th k L b)(hc:Th k L c):av P (n+4) 70 [.tup [.str "turn",a,b,c],nD w,nD p] M=.ok (.bl (lp w p [a,b,c])) M:=by
 refine aE (aK h.is_deed rfl ?_)
 show aj (bx _ [some (.tup [.str "turn",a,b,c]),some (nD w),some (nD p)] M) _
 unfold bx
 have z2:2<=sz:=aM (by decide)
 have z4:4<=sz:=aM (by decide)
 have ej:=cL (x:="turn") (y:="join") (b:=false) (by decide +kernel) M
 have et:=cL (x:="turn") (y:="turn") (b:=true) (by decide +kernel) M
 have ep:=cL (x:="turn") (y:="put") (b:=false) (by decide +kernel) M
 have em:=cL (x:="turn") (y:="move") (b:=false) (by decide +kernel) M
 refine aI (by kernel_rfl) (aI (by kernel_rfl) ?_)
 have t3:=C1 h n (w:=w) (p:=p) (M:=M) (xs:=[.str "turn",a,b,c]) hL rfl rfl ha hc
 cases A:(bc 0 ((p:Int)-1) a&&bc 1 3 c) with
 | false =>
   rw [A] at t3
   refine bM t3 rfl ⟨?_,rfl⟩
   simp only [lp]
   rcases Bool.and_eq_false_iff.mp A with q|q<;>simp [q]
 | true =>
   rw [A] at t3
   simp only [Bool.and_eq_true] at A
   refine aI t3 ?_
   have q:=qU h n (M:=M) (many:=w) hb (by omega) 0 ((w:Int)-1)
   refine bM (v:=.bl (gR w b)) (by kernel_rfl) (aE (by simp [bV,q];cases b<;>rfl)) ⟨?_,rfl⟩
   simp [lp,A.1,A.2]
theorem zM (n:Nat){w p:Nat}{a b c:D}(hL:L+1<=100)(ha:Th k L a)(hb:Th k L b)(hc:Th k L c):av P (n+4) 70 [.tup [.str "put",a,b,c],nD w,nD p] M=.ok (.bl (nB w p [a,b,c])) M:=by
 refine aE (aK h.is_deed rfl ?_)
 show aj (bx _ [some (.tup [.str "put",a,b,c]),some (nD w),some (nD p)] M) _
 unfold bx
 have z2:2<=sz:=aM (by decide)
 have z4:4<=sz:=aM (by decide)
 have ej:=cL (x:="put") (y:="join") (b:=false) (by decide +kernel) M
 have et:=cL (x:="put") (y:="turn") (b:=false) (by decide +kernel) M
 have ep:=cL (x:="put") (y:="put") (b:=true) (by decide +kernel) M
 have em:=cL (x:="put") (y:="move") (b:=false) (by decide +kernel) M
 refine aI (by kernel_rfl) (aI (by kernel_rfl) ?_)
 have t3:=C1 h n (w:=w) (p:=p) (M:=M) (xs:=[.str "put",a,b,c]) hL rfl rfl ha hc
 cases A:(bc 0 ((p:Int)-1) a&&bc 1 3 c) with
 | false =>
   rw [A] at t3
   refine bM t3 rfl ⟨?_,rfl⟩
   simp only [nB]
   rcases Bool.and_eq_false_iff.mp A with q|q<;>simp [q]
 | true =>
   rw [A] at t3
   simp only [Bool.and_eq_true] at A
   refine aI t3 ?_
   have q:=jH h (n+1) (M:=M) hb 0 ((w:Int)-1)
   refine aI (by kernel_rfl) (bM (v:=.bl (bc 0 ((w:Int)-1) b)) (by kernel_rfl) (aE (by simp [bV,q])) ⟨?_,rfl⟩)
   simp [nB,A.1,A.2]
theorem xY (n:Nat){w p:Nat}{a b c:D}(hL:L+1<=100)(ha:Th k L a)(hb:Th k L b)(hc:Th k L c):av P (n+4) 70 [.tup [.str "move",a,b,c],nD w,nD p] M=.ok (.bl (jY w p [a,b,c])) M:=by
 refine aE (aK h.is_deed rfl ?_)
 show aj (bx _ [some (.tup [.str "move",a,b,c]),some (nD w),some (nD p)] M) _
 unfold bx
 have z2:2<=sz:=aM (by decide)
 have z4:4<=sz:=aM (by decide)
 have ej:=cL (x:="move") (y:="join") (b:=false) (by decide +kernel) M
 have et:=cL (x:="move") (y:="turn") (b:=false) (by decide +kernel) M
 have ep:=cL (x:="move") (y:="put") (b:=false) (by decide +kernel) M
 have em:=cL (x:="move") (y:="move") (b:=true) (by decide +kernel) M
 refine aI (by kernel_rfl) (aI (by kernel_rfl) ?_)
 have t3:=C1 h n (w:=w) (p:=p) (M:=M) (xs:=[.str "move",a,b,c]) hL rfl rfl ha hc
 cases A:(bc 0 ((p:Int)-1) a&&bc 1 3 c) with
 | false =>
   rw [A] at t3
   refine bM t3 rfl ⟨?_,rfl⟩
   simp only [jY]
   rcases Bool.and_eq_false_iff.mp A with q|q<;>simp [q]
 | true =>
   rw [A] at t3
   simp only [Bool.and_eq_true] at A
   refine aI t3 ?_
   have q:=jH h (n+1) (M:=M) hb 0 ((p:Int)-1)
   refine aI (by kernel_rfl) (aI (by kernel_rfl) ?_)
   cases B:bc 0 ((p:Int)-1) b with
   | false =>
     rw [B] at q
     exact bM (aO (by simp [bV,q])) rfl ⟨by simp [jY,B],rfl⟩
   | true =>
     rw [B] at q
     refine aI (aO (by simp [bV,q])) (bM (by kernel_rfl) rfl ⟨?_,rfl⟩)
     simp [jY,A.1,A.2,B]
theorem xZ (n:Nat){w p:Nat}{a b e c:D}(hL:L+1<=100)(ha:Th k L a)(hb:Th k L b)(he:Th k L e)(hc:Th k L c):av P (n+4) 70 [.tup [.str "join",a,b,e,c],nD w,nD p] M=.ok (.bl (jz w p [a,b,e,c])) M:=by
 refine aE (aK h.is_deed rfl ?_)
 show aj (bx _ [some (.tup [.str "join",a,b,e,c]),some (nD w),some (nD p)] M) _
 unfold bx
 have z2:2<=sz:=aM (by decide)
 have z4:4<=sz:=aM (by decide)
 have ej:=cL (x:="join") (y:="join") (b:=true) (by decide +kernel) M
 have et:=cL (x:="join") (y:="turn") (b:=false) (by decide +kernel) M
 have ep:=cL (x:="join") (y:="put") (b:=false) (by decide +kernel) M
 have em:=cL (x:="join") (y:="move") (b:=false) (by decide +kernel) M
 refine aI (by kernel_rfl) (aI (by kernel_rfl) ?_)
 have t3:=C1 h n (w:=w) (p:=p) (M:=M) (xs:=[.str "join",a,b,e,c]) hL rfl rfl ha hc
 cases A:(bc 0 ((p:Int)-1) a&&bc 1 3 c) with
 | false =>
   rw [A] at t3
   refine bM t3 rfl ⟨?_,rfl⟩
   simp only [jz]
   rcases Bool.and_eq_false_iff.mp A with q|q<;>simp [q]
 | true =>
   rw [A] at t3
   simp only [Bool.and_eq_true] at A
   refine aI t3 ?_
   have q:=jH h (n+1) (M:=M) hb 0 ((p:Int)-1)
   refine aI (by kernel_rfl) (aI (by kernel_rfl) ?_)
   cases B:bc 0 ((p:Int)-1) b with
   | false =>
     rw [B] at q
     exact bM (aO (by simp [bV,q])) rfl ⟨by simp [jz,B],rfl⟩
   | true =>
     rw [B] at q
     refine aI (aO (by simp [bV,q])) (aI (by kernel_rfl) ?_)
     have e0:jz w p [a,b,e,c]=jC w e:=by simp [jz,A.1,A.2,B]
     rw [e0]
     cases e with
     |fn j=>exact absurd he (by cases k<;>exact id)
     |exc y p=>exact absurd he (by cases k<;>exact id)
     | tup ds =>
       have ht:=he.tup
       by_cases el:ds.length=w
       ·refine aI (aO (by simp [bV,bX,el])) ?_
        simp only [aR,cB]
        refine rD (gR w) (ds:=ds) (by simp [bV];exact ⟨rfl,rfl⟩) (aM (by omega)) (fun d hd=>aO (by
         have q:=qU h n (M:=M) (many:=w) (ht.2 d hd) (by omega) 0 ((w:Int)-1)
         have:rB w 0 ((w:Int)-1) d=gR w d:=by cases d<;>rfl
         rw [this] at q
         simp [q])) ?_
        exact ⟨by simp [jC,el],rfl⟩
       ·have:¬ ((ds.length:Int)=(w:Int)):=by omega
        exact bM (aO (by simp [bV,bX,this])) rfl ⟨by simp [jC,el],rfl⟩
     |_=>exact bM rfl rfl ⟨rfl,rfl⟩
omit h in
theorem zp {w p:Nat}{s:Str}{ds:List D}(hl:ds.length≠3/\ds.length≠4):cR w p s ds=false:=by
 have t:lp w p ds=false:=by
  match ds,hl with
  |[],_=>rfl
  |[_],_=>rfl
  |[_,_],_=>rfl
  |[_,_,_],hl=>simp at hl
  |_::_::_::_::_,_=>rfl
 have j:jz w p ds=false:=by
  match ds,hl with
  |[],_=>rfl
  |[_],_=>rfl
  |[_,_],_=>rfl
  |[_,_,_],_=>rfl
  |[_,_,_,_],hl=>simp at hl
  |_::_::_::_::_::_,_=>rfl
 have m:jY w p ds=false:=by
  match ds,hl with
  |[],_=>rfl
  |[_],_=>rfl
  |[_,_],_=>rfl
  |[_,_,_],hl=>simp at hl
  |_::_::_::_::_,_=>rfl
 have u:nB w p ds=false:=by
  match ds,hl with
  |[],_=>rfl
  |[_],_=>rfl
  |[_,_],_=>rfl
  |[_,_,_],hl=>simp at hl
  |_::_::_::_::_,_=>rfl
 unfold cR
 rw [t,j,m,u]
 split<;>first|rfl|(split<;>first|rfl|(split<;>first|rfl|(split<;>rfl)))
theorem lA (n:Nat){w p:Nat}{s:Str}{xs:List D}{bj:Bool}(hs:bP .notin (.str s) (.tup dw) M=some false)(ej:bP .eq (.str s) (.str "join") M=some bj)(hl:xs.length=3/\bj=true\/xs.length=4/\bj=false):av P (n+4) 70 [.tup (.str s::xs),nD w,nD p] M=.ok (.bl false) M:=by
 refine aE (aK h.is_deed rfl ?_)
 show aj (bx _ [some (.tup (.str s::xs)),some (nD w),some (nD p)] M) _
 unfold bx
 have z2:2<=sz:=aM (by decide)
 have z4:4<=sz:=aM (by decide)
 rcases hl with ⟨e,rfl⟩|⟨e,rfl⟩
 ·refine aI (aO (by simp [bX,e,HK.1,z2])) (bM (aO ?_) rfl ⟨rfl,rfl⟩)
  simp [bV,hs,z4,ej,CM,e]
 ·refine aI (aO (by simp [bX,e,HK.2,z2])) (bM (aO ?_) rfl ⟨rfl,rfl⟩)
  simp [bV,hs,z4,ej,CM,e]
theorem zN (n:Nat){w p:Nat}(hi:bX .tuple d=some false):av P (n+4) 70 [d,nD w,nD p] M=.ok (.bl false) M:=by
 refine aE (aK h.is_deed rfl ?_)
 show aj (bx _ [some d,some (nD w),some (nD p)] M) _
 unfold bx
 exact bM (aO (by simp [hi])) rfl ⟨rfl,rfl⟩
theorem y6 (n:Nat){w p:Nat}(hd:Th k L d)(hk:k<=60)(hL:L+1<=100):av P (n+4) 70 [d,nD w,nD p] M=.ok (.bl (fg w p d)) M:=by
 cases d with
 |fn j=>exact absurd hd (by cases k<;>exact id)
 |exc y p=>exact absurd hd (by cases k<;>exact id)
 | tup xs =>
   have ht:=hd.tup
   by_cases hl:xs.length≠4/\xs.length≠5
   ·rw [zO h n hl]
    cases xs with
    |nil=>rfl
    | cons x ds =>
      simp at hl
      cases x with
      |str s=>show _=Res.ok (D.bl (cR w p s ds)) M;rw [zp ⟨by omega,by omega⟩]
      |_=>rfl
   ·have hl:xs.length=4\/xs.length=5:=by omega
    cases xs with
    |nil=>simp at hl
    | cons x ds =>
      have hx:=ht.2 x List.mem_cons_self
      have hds:∀d∈ds,Th k L d:=fun d hd=>ht.2 d (List.mem_cons_of_mem _ hd)
      have hl:ds.length=3\/ds.length=4:=by simp at hl;omega
      by_cases hn:(dw.any fun y=>bC y x)=false
      ·rw [xX h n hx hk hl hn]
       cases x with
       | str s =>
         show _=Res.ok (D.bl (cR w p s ds)) M
         have q:∀z:Str,D.str z∈dw->¬ s=z:=fun z hz e=>by
          subst e
          rw [List.any_eq_false] at hn
          exact hn _ hz (by simp [bC])
         rw [uT (q _ (by simp)) (q _ (by simp)) (q _ (by simp)) (q _ (by simp))]
       |_=>rfl
      ·have hn:(dw.any fun y=>bC y x)=true:=(Bool.not_eq_false _).mp hn
       obtain ⟨z,hz,e⟩:=List.any_eq_true.mp hn
       have hx:∃s:Str,x=.str s/\D.str s∈dw:=by
        simp only [dw,List.mem_cons,List.not_mem_nil,or_false] at hz
        cases x<;>rcases hz with rfl|rfl|rfl|rfl<;>first|(simp [bC] at e;subst e;exact ⟨_,rfl,by simp⟩)|simp [bC] at e
       obtain ⟨s,rfl,hs⟩:=hx
       show _=Res.ok (D.bl (cR w p s ds)) M
       simp only [dw,List.mem_cons,List.not_mem_nil,or_false,D.str.injEq] at hs
       match ds,hds,hl with
       | [a, b, c], hds, _ =>
         simp only [List.mem_cons,List.not_mem_nil,or_false,forall_eq_or_imp,forall_eq] at hds
         rcases hs with rfl|rfl|rfl|rfl
         ·rw [nI];exact xW h n hL hds.1 hds.2.1 hds.2.2
         ·rw [nH];exact lA h n Ef (cL (by decide +kernel) M) (.inl ⟨rfl,rfl⟩)
         ·rw [nG];exact xY h n hL hds.1 hds.2.1 hds.2.2
         ·rw [nF];exact zM h n hL hds.1 hds.2.1 hds.2.2
       | [a, b, e, c], hds, _ =>
         simp only [List.mem_cons,List.not_mem_nil,or_false,forall_eq_or_imp,forall_eq] at hds
         rcases hs with rfl|rfl|rfl|rfl
         ·rw [nI];exact lA h n Ed (cL (by decide +kernel) M) (.inr ⟨rfl,rfl⟩)
         ·rw [nH];exact xZ h n hL hds.1 hds.2.1 hds.2.2.1 hds.2.2.2
         ·rw [nG];exact lA h n Ee (cL (by decide +kernel) M) (.inr ⟨rfl,rfl⟩)
         ·rw [nF];exact lA h n Hb (cL (by decide +kernel) M) (.inr ⟨rfl,rfl⟩)
       |[],_,hl=>simp at hl
       |[_],_,hl=>simp at hl
       |[_,_],_,hl=>simp at hl
       |_::_::_::_::_::_,_,hl=>simp at hl
 |_=>exact zN h n rfl
theorem sA (n:Nat)(hd:Th k L d)(hk:k<=60)(hL:L+1<=100):av P (n+5) 71 [d] M=.ok (.bl (fc d)) M:=by
 refine aE (aK h.is_machine rfl ?_)
 show aj (d7 _ [some d] M) _
 unfold d7
 by_cases hn:fV 3 d=false
 ·rw [vg hn]
  cases d with
  |fn j=>exact absurd hd (by cases k<;>exact id)
  |exc y p=>exact absurd hd (by cases k<;>exact id)
  | tup xs =>
    have:¬ ((xs.length:Int)=3):=by simp [fV] at hn;omega
    exact bM (aO (by simp [bX,this])) rfl ⟨rfl,rfl⟩
  |_=>exact bM rfl rfl ⟨rfl,rfl⟩
 ·match d,hd,hn with
  | .tup [a, b, c], hd, _ =>
    have ht:=hd.tup.2
    simp only [List.mem_cons,List.not_mem_nil,or_false,forall_eq_or_imp,forall_eq] at ht
    have b1:=jH h (n+2) (M:=M) ht.1 2 4
    have b2:=jH h (n+2) (M:=M) ht.2.1 1 2
    show aj _ (jU fun x M'=>x=.bl (bc 2 4 a&&(bc 1 2 b&&(fW c&&(qv c).all (fg (eB a) (eB b)))))/\M'=M)
    cases c1:bc 2 4 a with
    | false =>
      rw [c1] at b1
      exact bM (aO (by simp [bX,bV,b1])) rfl ⟨rfl,rfl⟩
    | true =>
      rw [c1] at b1
      refine aI (aO (by simp [bX,bV,b1])) ?_
      cases c2:bc 1 2 b with
      | false =>
        rw [c2] at b2
        exact bM (aO (by simp [bV,b2])) rfl ⟨rfl,rfl⟩
      | true =>
        rw [c2] at b2
        obtain ⟨ea,_,_⟩:=oK c1 (by decide)
        obtain ⟨eb,_,_⟩:=oK c2 (by decide)
        by_cases hcc:∃ds,c=.tup ds
        ·obtain ⟨ds,rfl⟩:=hcc
         have hc:=ht.2.2.tup
         cases lb:fW (.tup ds) with
         | false =>
           refine bM (aO ?_) rfl ⟨rfl,rfl⟩
           simp [fW] at lb
           simp [bV,b2,bX]
           omega
         | true =>
           refine aI (aO ?_) ?_
           ·simp [fW] at lb
            simp [bV,b2,bX]
            omega
           ·simp only [aR,cB]
            refine rD (fg (eB a) (eB b)) (ds:=ds) (by simp [bV];exact ⟨rfl,rfl⟩) (aM (by omega)) (fun d hd=>aO (by
             have q:=y6 h n (w:=eB a) (p:=eB b) (M:=M) (hc.2 d hd) hk hL
             rw [<- ea,<- eb] at q
             simp [bV,q])) ?_
            exact ⟨by simp [qv],rfl⟩
        ·have e1:fW c=false:=by cases c<;>first|rfl|exact absurd ⟨_,rfl⟩ hcc
         have e2:=vk ht.2.2 (t:=.tuple) (.inr ⟨hcc,rfl⟩)
         exact bM (aO (by simp [bV,b2,e2])) rfl ⟨by simp [e1],rfl⟩
  |.tup [],_,hn=>exact absurd rfl hn
  |.tup [_],_,hn=>exact absurd rfl hn
  |.tup [_,_],_,hn=>exact absurd rfl hn
  |.tup (_::_::_::_::r),_,hn=>exact absurd (by simp [fV]) hn
  |.non,_,hn=>exact absurd rfl hn
  |.bl _,_,hn=>exact absurd rfl hn
  |.int _,_,hn=>exact absurd rfl hn
  |.str _,_,hn=>exact absurd rfl hn
  |.lst _,_,hn=>exact absurd rfl hn
  |.frz _,_,hn=>exact absurd rfl hn
  |.cell _,_,hn=>exact absurd rfl hn
  |.fn _,_,hn=>exact absurd rfl hn
  |.exc _ _,_,hn=>exact absurd rfl hn
end
end LD
namespace LD
open PySem
structure HasT0 (P:Nat->Option Df):Prop where
 but:P 64=some ⟨2,4,eT⟩
 any:P 65=some ⟨1,1,eU⟩
structure HasT (P:Nat->Option Df):Prop extends HasT0 P where
 signed:P 66=some ⟨2,3,fP⟩
 bent:P 72=some ⟨3,9,g7⟩
instance coeHasT {P:Nat->Option Df}:Coe (HasT P) (HasT0 P):=⟨HasT.toHasT0⟩
section
variable {Z:Env}{M:Mem}{a b lo hi:GE}{k:D->Mem->Prop}{kw:Walk->Mem->Prop}
@[simp] theorem Fe:aj (qE a Z M) kw↔aj (a Z M) fun x M=>∃z,x=.str z/\kw (fun _=>some (signs z)) M:=by
 simp only [qE,bL];refine iff_of_eq ?_;congr 1;funext x M;cases x<;>simp
theorem HW {hl hh:Bool}:aj (ow hl hh a lo hi Z M) k↔aj (a Z M) fun x M=>aj (lo Z M) fun l M=>aj (hi Z M) fun h M=>cw hl l=true/\cw hh h=true/\∃z i j,x=.str z/\z.cps.size<=sz/\aV z.cps.size 0 l=some i/\aV z.cps.size z.cps.size h=some j/\k (.str (ju z i j)) M:=by
 simp only [ow,bL]
 refine iff_of_eq ?_
 congr 1;funext x M;congr 1;funext l M;congr 1;funext h M
 cases cw hl l<;>cases cw hh h<;>simp
 cases x<;>simp
 rename_i z
 by_cases hz:z.cps.size<=sz
 ·simp [hz]
  cases aV z.cps.size 0 l<;>cases aV z.cps.size z.cps.size h<;>simp
 ·simp [hz]
end
def hX (L:Nat)(z:Str):Prop:=z.cps.size<=L/\z.cps.all (· < 0x110000)=true
theorem hX.th {n L:Nat}{z:Str}(h:hX L z):Th n L (.str z):=by cases n<;>exact h
theorem Ai {L:Nat}{z:Str}{i j:Nat}(h:hX L z):hX (j-i) (ju z i j)/\(ju z i j).cps.size<=z.cps.size-i:=by
 refine ⟨⟨?_,?_⟩,?_⟩
 ·simp [ju,cut];omega
 ·have h2:=h.2
  rw [<- Array.all_toList,List.all_eq_true] at h2
  simp only [ju]
  rw [List.all_toArray,List.all_eq_true]
  intro x hx
  exact h2 x (List.mem_of_mem_drop (List.mem_of_mem_take hx))
 ·simp [ju,cut];omega
theorem add_str {m:Bool}{x y:Str}{M:Mem}{k:D->Mem->Prop}(h:x.cps.size+y.cps.size<=sz):aj (fv m .add (.str x) (.str y) M) k↔k (.str ⟨x.cps++y.cps⟩) M:=by simp [fv,h]
abbrev Kh:Str:=" !\"#$&'()*+,-./0123456789:;<=>?@ABCDEFGHIJKLMNOPQRSTUVWXYZ[\\]^_`"
abbrev Kg:Str:="abcdefghijklmnopqrstuvwxyz{|}~\t\n"
def allSigns:Str:=⟨Kh.cps++Kg.cps⟩
theorem E5 {M:Mem}{k:D->Mem->Prop}:aj (fv false .add (.str Kh) (.str Kg) M) k↔k (.str allSigns) M:=add_str (tqh (by decide +kernel) (aM (n:=200) (by decide)))
theorem jI:(0<(signs allSigns).length/\(signs allSigns).length<=200)/\allSigns.cps.size<=200/\((signs allSigns).all fun d=>match d with|.str z=>!km z ""&&z.cps.size==1&&z.cps.all (· < 0x110000)|_=>false)=true:=by decide +kernel
theorem sign_is {d:D}(h:d∈signs allSigns):∃z:Str,d=.str z/\km z ""=false/\hX 1 z:=by
 have q:=List.all_eq_true.mp jI.2.2 d h
 cases d with
 | str z =>
   simp only [Bool.and_eq_true,Bool.not_eq_true',beq_iff_eq] at q
   exact ⟨z,rfl,q.1.1,by rw [q.1.2];exact tqg 1,q.2⟩
 |_=>cases q
section
variable {P:Nat->Option Df}(hp_:HasP0 P)(ht_:HasT0 P){M:Mem}
include hp_ ht_
theorem Fm (n:Nat){p B:Nat}(hp:aQ M p B)(hB:B<=900000):aj (av P (n+4) 65 [.cell p] M) fun d M'=>∃z:Str,d=.str z/\hX 1 z/\aQ M' p (B+1)/\bI p M M':=by
 refine aK ht_.any rfl ?_
 show aj (eU _ [some (.cell p)] M) _
 simp only [eU,aR,cB,fu,bw,bN,bt,dM,List.getElem?_cons_zero,Option.getD_some,Option.some.injEq,exists_eq_left']
 refine aK ht_.but rfl ?_
 show aj (eT _ [some (.cell p),some (.str ""),none,none] M) _
 simp only [eT,aR,qc,gp,eJ,cB,dM,eE,bt,List.getElem?_cons_zero,List.getElem?_cons_succ,Option.getD_some,Option.some.injEq,exists_eq_left',List.set_cons_zero,List.set_cons_succ]
 refine E5.mpr ?_
 simp only [lg,Fe,bt,List.getElem?_cons_zero,List.getElem?_cons_succ,Option.getD_some,Option.some.injEq,exists_eq_left',D.str.injEq]
 refine sV (fun _=>true) (fun d=>d) (ds:=signs allSigns) (aM (by have:=jI.1.2;omega)) rfl (fun d hd=>?_) ?_
 ·obtain ⟨z,rfl,hz,_⟩:=sign_is hd
  refine ⟨_,rfl,aO ?_,fun _=>rfl⟩
  simp
  show some (!km z "")=_
  rw [hz];rfl
 have ef:(List.filter (fun _=>true) (signs allSigns)).map (fun d=>d)=signs allSigns:=by simp
 rw [ef]
 refine cq.mpr ⟨aM (by have:=jI.1.2;omega),?_⟩
 simp only [eJ,aR,cB,lD,fu,bw,bN,ff,bt,List.getElem?_cons_zero,List.getElem?_cons_succ,Option.getD_some,Option.some.injEq,exists_eq_left',List.set_cons_zero,List.set_cons_succ,Eh]
 refine tk hp_ n hp (by omega) jI.1.1 (by have:=jI.1.2;omega) fun v M' hv q kk=>?_
 obtain ⟨z,e,_,hz⟩:=sign_is (List.getElem_mem hv)
 refine ⟨.str z,?_,z,rfl,hz,q,kk⟩
 show (bV (signs allSigns).length (v:Int)).bind (fun j=>(signs allSigns)[j]?)=_
 rw [gq hv]
 simp [hv,e]
end
section
variable {P:Nat->Option Df}(hp_:HasP P)(ht_:HasT P){M:Mem}
include hp_ ht_
omit hp_ ht_ in
theorem Am {A B:Nat}{x y:Str}(hx:hX A x)(hy:hX B y):hX (x.cps.size+y.cps.size) ⟨x.cps++y.cps⟩:=by
 refine ⟨by simp,?_⟩
 have h1:=hx.2
 have h2:=hy.2
 simp only [Array.all_append,h1,h2,Bool.and_self]
theorem yX (n:Nat){p B L:Nat}{z:Str}(hz:hX L z)(hL:L<=100)(hp:aQ M p B)(hB:B<=800000):aj (av P (n+5) 66 [.cell p,.str z] M) fun d M'=>∃z':Str,d=.str z'/\hX (L+1) z'/\aQ M' p (B+3)/\bI p M M':=by
 refine aK ht_.signed rfl ?_
 show aj (fP _ [some (.cell p),some (.str z),none] M) _
 have zl:=hz.1
 have zsz:z.cps.size<=sz:=aM (by omega)
 simp only [fP,aR,qc,gp,eJ,cB,fu,bw,bN,dM,eE,bt,ff,HW,List.getElem?_cons_zero,List.getElem?_cons_succ,Option.getD_some,Option.some.injEq,exists_eq_left',List.set_cons_zero,List.set_cons_succ]
 have el:∀{k:D->Mem->Prop},k (.int z.cps.size) M->aj (gv .len [.str z] M) k:=fun hk=>by
  show aj (if z.cps.size<=sz then Res.ok (D.int z.cps.size) M else .bad) _
  rw [if_pos zsz];exact hk
 refine el ?_
 rw [gE]
 rw [show ((z.cps.size:Int)+1)=((z.cps.size+1:Nat):Int) by omega]
 refine tk hp_ (n+2) hp (by omega) (by omega) (by omega) fun at_ M1 hat q1 k1=>?_
 refine ⟨rfl,rfl,z,0,at_,rfl,zsz,rfl,?_,?_⟩
 ·show some (if (at_:Int)<0 then _ else min (at_:Int).toNat z.cps.size)=_
  rw [if_neg (by omega)]
  congr 1
  simp;omega
 refine bo (Fm hp_ ht_ (M:=M1) (B:=B+1) (p:=p) n q1 (by omega)) fun d M2 ⟨y,ed,hy,q2,k2⟩=>?_
 subst ed
 have c1:=Ai (i:=0) (j:=at_) hz
 have hs1:=Am c1.1 hy
 have s1:=c1.1.1
 have s2:=hy.1
 have w1:(ju z 0 at_).cps.size+y.cps.size<=sz:=aM (by omega)
 refine (add_str w1).mpr ?_
 refine tk hp_ (n+2) (many:=2) q2 (by omega) (by decide) (by decide) fun v M3 hv q3 k3=>?_
 rw [gE]
 rw [show ((at_:Int)+(v:Int))=((at_+v:Nat):Int) by omega]
 refine ⟨rfl,rfl,z,min (at_+v) z.cps.size,z.cps.size,rfl,zsz,?_,rfl,?_⟩
 ·show some (if ((at_+v:Nat):Int)<0 then _ else min ((at_+v:Nat):Int).toNat z.cps.size)=_
  rw [if_neg (by omega)]
  congr 1
 have c2:=Ai (i:=min (at_+v) z.cps.size) (j:=z.cps.size) hz
 have hs2:=Am hs1 c2.1
 have s3:=c2.2
 have s4:=hs1.1
 simp only at s4
 have w2:((ju z 0 at_).cps++y.cps).size+(ju z (min (at_+v) z.cps.size) z.cps.size).cps.size<=sz:=aM (by simp only [Array.size_append] at s4 ⊢;omega)
 refine (add_str w2).mpr ?_
 refine ⟨_,rfl,⟨?_,hs2.2⟩,q3,(k1.trans k2).trans k3⟩
 have:=hs2.1
 simp only [Array.size_append] at this ⊢
 omega
end
def eX:List D:=[.non,.bl true,.bl false,.str "",.str "turn",.str "join",.str "move",.str "put",.str "Turn",.tup [],.lst [],.int (10^20),.int (-1),.int 0,.int 1,.int 4,.tup [.int 0],.lst [.int 0],.str "0",.int 7]
theorem zE {x:D}(h:x∈eX):Th 1 4 x:=by
 have st:∀z:Str,(z.cps.size<=4&&z.cps.all (· < 0x110000))=true->Th 1 4 (.str z):=fun z hz=>by
  simp only [Bool.and_eq_true,decide_eq_true_eq] at hz
  exact hz
 simp only [eX,List.mem_cons,List.not_mem_nil,or_false] at h
 rcases h with rfl|rfl|rfl|rfl|rfl|rfl|rfl|rfl|rfl|rfl|rfl|rfl|rfl|rfl|rfl|rfl|rfl|rfl|rfl|rfl
 all_goals first
  |trivial
  |exact st _ (by decide +kernel)
  |exact ⟨by decide,fun d hd=>absurd hd List.not_mem_nil⟩
  |exact ⟨by decide,fun d hd=>by rw [List.mem_singleton.mp hd];trivial⟩
theorem wb {lo hi:D}{hl hh:Bool}{xs:List D}{M:Mem}{k:D->Mem->Prop}(h1:cw hl lo=true)(h2:cw hh hi=true)(hk:∀i j,k (.tup (cut xs i j)) M):aj (eG false (.tup xs) lo hi M) k:=by
 have q:∀{n d:Nat}{b:Bool}{x:D},cw b x=true->∃i,aV n d x=some i:=fun {n d b x} h=>by
  cases b<;>cases x<;>first|exact ⟨_,rfl⟩|cases h
 obtain ⟨i,e1⟩:=q (n:=xs.length) (d:=0) h1
 obtain ⟨j,e2⟩:=q (n:=xs.length) (d:=xs.length) h2
 show aj (match aV xs.length 0 lo,aV xs.length xs.length hi with|some l,some h=>Res.ok (D.tup (cut xs l h)) M|_,_=>.bad) k
 rw [e1,e2]
 exact hk i j
theorem kc {xs:List D}{i j:Nat}:(cut xs i j).length<=xs.length/\(cut xs i j).length<=j/\∀d∈cut xs i j,d∈xs:=by
 refine ⟨?_,?_,fun d hd=>List.mem_of_mem_drop (List.mem_of_mem_take hd)⟩
 ·unfold cut;rw [List.length_take,List.length_drop];omega
 ·unfold cut;rw [List.length_take];omega
theorem I0 {xs:List D}{M:Mem}{k:D->Mem->Prop}(hk:∀ys:List D,ys.length<=1->(∀d∈ys,d∈xs)->k (.tup ys) M):aj (eG false (.tup xs) .non (.int 1) M) k:=by
 show aj (Res.ok (D.tup (cut xs 0 (min 1 xs.length))) M) k
 exact hk _ (tqh kc.2.1 (by omega)) kc.2.2
theorem Fo {xs:List D}{a:Nat}{M:Mem}{k:D->Mem->Prop}(ha:a<xs.length)(hk:k (.tup (xs.take a)) M):aj (eG false (.tup xs) .non (nD a) M) k:=by
 show aj (Res.ok (D.tup (cut xs 0 (if (a:Int)<0 then _ else min (a:Int).toNat xs.length))) M) k
 rw [if_neg (by omega)]
 have:cut xs 0 (min (a:Int).toNat xs.length)=xs.take a:=by
  unfold cut
  rw [show min (a:Int).toNat xs.length-0=a by simp;omega,List.drop_zero]
 rw [this];exact hk
theorem A6 {xs:List D}{a:Nat}{M:Mem}{k:D->Mem->Prop}(ha:a<xs.length)(hk:k (.tup (xs.drop (a+1))) M):aj (eG false (.tup xs) (.int ((a:Int)+1)) .non M) k:=by
 show aj (Res.ok (D.tup (cut xs (if (a:Int)+1<0 then _ else min ((a:Int)+1).toNat xs.length) xs.length)) M) k
 rw [if_neg (by omega)]
 have:cut xs (min ((a:Int)+1).toNat xs.length) xs.length=xs.drop (a+1):=by
  unfold cut
  rw [show min ((a:Int)+1).toNat xs.length=a+1 by omega,List.take_of_length_le (by simp)]
 rw [this];exact hk
theorem Th.tup_of {k L:Nat}{xs:List D}(hl:xs.length<=L)(h:∀d∈xs,Th k L d):Th (k+1) L (.tup xs):=⟨hl,h⟩
theorem Th.lst_of {k L:Nat}{xs:List D}(hl:xs.length<=L)(h:∀d∈xs,Th k L d):Th (k+1) L (.lst xs):=⟨hl,h⟩
def pN (c:Call):GS:=(ai (bf (je (aL (bY .str (ag 1))) (aL (a7 .lt (ag 3) (gI 3)))) (ai (aW (az 66 c (af (ag 0) (af (ag 1) au)))) aw) aw) (ai (aW (a8 (ag 7) (ag 4))) aw))
section
variable {P:Nat->Option Df}(hp_:HasP P)(ht_:HasT P)(hw_:pO P){M:Mem}
include hp_ ht_ hw_
theorem Ar (n:Nat){k L p B kind pick:Nat}{d:D}{x2 x5 x6 x8:Option D}(hd:Th k L d)(hk:k<=50)(h6:6<=L)(hL:L<=50)(hp:aQ M p B)(hB:B<=800000)(hpk:pick<20) :
 aj (pN (av P (n+5)) [some (.cell p),some d,x2,some (nD kind),some (nD pick),x5,x6,some (.lst eX),x8] M) (jU fun d' M'=>Th (k+1) (L+1) d'/\aQ M' p (B+3)/\bI p M M'):=by
 have fin:aj (ai (aW (a8 (ag 7) (ag 4))) aw [some (.cell p),some d,x2,some (nD kind),some (nD pick),x5,x6,some (.lst eX),x8] M) (jU fun d' M'=>Th (k+1) (L+1) d'/\aQ M' p (B+3)/\bI p M M'):=by
  have hl:pick<eX.length:=hpk
  exact cV (v:=eX[pick]) (aE (by simp [-wD,oq hl])) ⟨(zE (List.getElem_mem hl)).mono (by omega) (by omega),hp.mono (by omega),.refl⟩
 unfold pN
 cases d with
 |fn j=>exact absurd hd (by cases k<;>exact id)
 |exc y p=>exact absurd hd (by cases k<;>exact id)
 | str z =>
   have hz:hX L z:=by cases k<;>exact hd
   by_cases c:(kind:Int)<3
   ·simp only [aR,kF,IS,jw,vn,bt,iU,dM,List.getElem?_cons_zero,List.getElem?_cons_succ,Option.getD_some,Option.some.injEq,exists_eq_left',cB,fu,bw,bN]
    refine ⟨true,rfl,true,rfl,?_⟩
    rw [if_pos rfl]
    refine ⟨_,rfl,_,rfl,?_⟩
    rw [decide_eq_true c,if_pos rfl]
    exact bo (yX hp_ ht_ n hz (by omega) hp hB) fun d' M' ⟨z',e,h1,h2,h3⟩=>⟨by rw [e];exact h1.th.mono (tqg _) (tqg _),h2,h3⟩
   ·refine aI (aO ?_) fin
    simp [bX]
    omega
 |_=>exact aI rfl fin
omit hp_ ht_ hw_ in
theorem sL {k:Fl->Mem->Prop}{rest:GS}{M:Mem}{x0 x1 x2 x3 x4 x5 x6 x7 x8:Option D}(hk:aj (rest [x0,x1,x2,x3,x4,x5,x6,some (.lst eX),x8] M) k) :
 aj (ai (aU (.one 7) (bB false (af gN (af zY (af wH (af (gS "") (af (gS "turn") (af (gS "join") (af (gS "move") (af (gS "put") (af (gS "Turn") (af (cU au) (af (bB false au) (af (aH false .pow (gI 10) (gI 20)) (af (iS (gI 1)) (af (gI 0) au)))))))))))))))) (ai (aU (.one 7) (aH false .add (ag 7) (bB false (af (gI 1) (af (gI 4) (af (cU (af (gI 0) au)) (af (bB false (af (gI 0) au)) (af (gS "0") (af (gI 7) au))))))))) rest) [x0,x1,x2,x3,x4,x5,x6,x7,x8] M) k:=by
 simp only [aR,gp]
 have e:((bB false (af gN (af zY (af wH (af (gS "") (af (gS "turn") (af (gS "join") (af (gS "move") (af (gS "put") (af (gS "Turn") (af (cU au) (af (bB false au) (af (aH false .pow (gI 10) (gI 20)) (af (iS (gI 1)) (af (gI 0) au))))))))))))))):GE) [x0,x1,x2,x3,x4,x5,x6,x7,x8] M=.ok (.lst (eX.take 14)) M:=by rfl
 rw [e]
 show aj (ai _ rest [x0,x1,x2,x3,x4,x5,x6,some (.lst (eX.take 14)),x8] M) k
 simp only [aR,gp]
 have e2:((aH false .add (ag 7) (bB false (af (gI 1) (af (gI 4) (af (cU (af (gI 0) au)) (af (bB false (af (gI 0) au)) (af (gS "0") (af (gI 7) au)))))))):GE) [x0,x1,x2,x3,x4,x5,x6,some (.lst (eX.take 14)),x8] M=.ok (.lst eX) M:=by rfl
 rw [e2]
 exact hk
def kd (c:Call):GS:=ai (bf (aL (bY .tuple (ag 1))) (ai (aU (.one 8) (bB false (af (bG (.list false) (af (ag 1) au)) (af (aH false .add (ag 1) (dH false false true (ag 1) gN (gI 1))) (af (dH false false true (ag 1) gN (iS (gI 1))) (af (mJ false (ag 1)) (af (aH false .add (ag 1) (cU (af (ag 5) au))) (af (dH false true false (ag 1) (gI 1) gN) (af (cU (af (ag 1) au)) au))))))))) (ai (aW (a8 (aH false .add (ag 8) (bB false (af (a8 (ag 7) (ag 4)) au))) (ag 3))) aw)) aw) (ai (bf (aL (az 67 c (af (ag 1) au))) (ai (aW (a8 (bB false (af (aH false .add (ag 1) (gI 1)) (af (aH false .sub (ag 1) (gI 1)) (af (aH false .sub (gI 0) (ag 1)) (af (ag 5) (af (ag 5) (af (a7 .eq (ag 1) (gI 1)) (af (aH false .sub (gI 3) (ag 1)) (af (a8 (ag 7) (ag 4)) au))))))))) (ag 3))) aw) aw) (pN c))
theorem Ck (n:Nat){k L p B kind pick:Nat}{num:Int}{d:D}{x2 x6 x8:Option D}(hd:Th k L d)(hk:k<=50)(h6:6<=L)(hL:L<=50)(hp:aQ M p B)(hB:B<=800000)(hkd:kind<8)(hpk:pick<20) :
 aj (kd (av P (n+5)) [some (.cell p),some d,x2,some (nD kind),some (nD pick),some (.int num),x6,some (.lst eX),x8] M) (jU fun d' M'=>Th (k+1) (L+1) d'/\aQ M' p (B+3)/\bI p M M'):=by
 have hl:pick<eX.length:=hpk
 have ho:Th (k+1) (L+1) eX[pick]:=(zE (List.getElem_mem hl)).mono (by omega) (by omega)
 have pick8:∀{xs:List D},xs.length=8->(∀x∈xs,Th (k+1) (L+1) x)->∃x,fq (.lst xs) (nD kind) M=some x/\Th (k+1) (L+1) x:=fun {xs} h8 h=>⟨_,oq (by omega),h _ (List.getElem_mem _)⟩
 unfold kd
 have tail:=Ar hp_ ht_ hw_ n (x2:=x2) (x5:=some (.int num)) (x6:=x6) (x8:=x8) (kind:=kind) hd hk h6 hL hp hB hpk
 cases d with
 |fn j=>exact absurd hd (by cases k<;>exact id)
 |exc y p=>exact absurd hd (by cases k<;>exact id)
 | tup xs =>
   refine iO (aO (by simp [bX])) ?_
   simp only [aR,gp,cB,mL,bw,bN,bt,ff,eE,oB,jB,CV,CU,dM,lD,List.getElem?_cons_zero,List.getElem?_cons_succ,Option.getD_some,Option.some.injEq,exists_eq_left',List.set_cons_zero,List.set_cons_succ]
   have hx:=hd.tup
   have hxl:=hx.1
   have hx1:∀d∈xs,Th k (L+1) d:=fun d hd=>(hx.2 d hd).mono (tqg _) (by omega)
   have up:∀{ys:List D},ys.length<=L+1->(∀d∈ys,d∈xs\/Th k (L+1) d)->Th (k+1) (L+1) (.tup ys):=fun {ys} hl h=>.tup_of hl fun d hd=>by
    rcases h d hd with z|z
    ·exact hx1 d z
    ·exact z
   refine BN.mpr (cq.mpr ⟨aM (by omega),rfl,rfl,I0 fun ys y1 y2=>?_⟩)
   refine ma.mpr ⟨aM (by simp;omega),1,rfl,rfl,rfl,wb (hl:=false) (hh:=true) rfl rfl fun i2 j2=>DC.mpr ⟨aM (by simp),ma.mpr ⟨aM (by simp;omega),rfl,rfl,wb (hl:=true) (hh:=false) rfl rfl fun i3 j3=>⟨aM (by simp),cq.mpr ⟨aM (by simp),?_⟩⟩⟩⟩⟩
   obtain ⟨x,e1,e2⟩:=pick8 (xs:=[.lst xs,.tup (xs++ys),.tup (cut xs i2 j2),.tup xs.reverse,.tup (xs++[.int num]),.tup (cut xs i3 j3),.tup [.tup xs]]++[eX[pick]]) rfl (fun x hx'=>by
    simp only [List.cons_append,List.nil_append,List.mem_cons,List.not_mem_nil,or_false] at hx'
    rcases hx' with rfl|rfl|rfl|rfl|rfl|rfl|rfl|rfl
    ·exact .lst_of (by omega) hx1
    ·exact up (by simp;omega) fun d hd=>(List.mem_append.mp hd).elim .inl fun z=>.inl (y2 d z)
    ·exact up (tqh kc.1 (by omega)) fun d hd=>.inl (kc.2.2 d hd)
    ·exact up (by simp;omega) fun d hd=>.inl (List.mem_reverse.mp hd)
    ·exact up (by simp;omega) fun d hd=>by
      rcases List.mem_append.mp hd with z|z
      ·exact .inl z
      ·rw [List.mem_singleton.mp z];exact .inr (by cases k<;>trivial)
    ·exact up (tqh kc.1 (by omega)) fun d hd=>.inl (kc.2.2 d hd)
    ·exact .tup_of (by simp) fun d hd'=>by rw [List.mem_singleton.mp hd'];exact hd.mono (tqg _) (by omega)
    ·exact ho)
   refine cV (v:=x) (aE ?_) ⟨e2,hp.mono (by omega),.refl⟩
   simp only [lD,eE,bt,mL,bw,bN]
   exact ⟨_,rfl,_,rfl,_,rfl,_,oq hl,cq.mpr ⟨aM (by simp),qL.mpr (cq.mpr ⟨aM (by simp),_,rfl,x,e1,rfl,rfl⟩)⟩⟩
 | int i =>
   have qw:=lq hw_ (n+4) (M:=M) hd
   refine aI (aO (by simp [bX])) (iO (aO (by simp [qw,pU])) ?_)
   simp only [aR,cB,mL,bw,bN,bt,eE,dM,lD,iU,List.getElem?_cons_zero,List.getElem?_cons_succ,Option.getD_some,Option.some.injEq,exists_eq_left',gE,ng]
   refine ⟨_,rfl,_,oq hl,cq.mpr ⟨aM (by simp),?_⟩⟩
   obtain ⟨x,e1,e2⟩:=pick8 (xs:=[.int (i+1),.int (i-1),.int (0-i),.int num,.int num,.bl (i==1),.int (3-i),eX[pick]]) rfl (fun x hx=>by
    simp only [List.mem_cons,List.not_mem_nil,or_false] at hx
    rcases hx with rfl|rfl|rfl|rfl|rfl|rfl|rfl|rfl
    all_goals first|exact ho|trivial)
   exact ⟨x,e1,e2,hp.mono (by omega),.refl⟩
 | _ =>
   have qw:=lq hw_ (n+4) (M:=M) hd
   exact aI (aO (by simp [bX])) (aI (aO (by simp [qw,pU])) tail)
omit hp_ ht_ hw_ in
theorem BC {k L:Nat}{xs:List D}(h:Th k L (.tup xs))(hk:k<=60):bP .ne (.tup xs) (.tup []) M=some (!xs.isEmpty):=by
 refine oH (h.mono (n':=64) (by omega) (tqg L)).pure rfl ?_
 cases xs<;>rfl
theorem tj (n deep:Nat){k L p B:Nat}{d:D}(hd:Th k L d)(hk:k<=50)(h6:6<=L)(hL:L<=50)(hp:aQ M p B)(hB:B<=700000)
 (ih:0<deep->∀{k' B':Nat}{d':D}{M':Mem},Th k' L d'->k'<=50->aQ M' p B'->B'<=B+4->aj (av P (n+deep+5) 72 [.cell p,d',.int ((deep:Int)-1)] M') fun e M''=>Th (k'+1) (L+1) e/\aQ M'' p (B'+6*deep)/\bI p M' M'') :
 aj (av P (n+deep+6) 72 [.cell p,d,nD deep] M) fun d' M'=>Th (k+1) (L+1) d'/\aQ M' p (B+6*(deep+1))/\bI p M M':=by
 refine aK ht_.bent rfl ?_
 show aj (ai _ (ai _ (ai _ (ai (bf _ _ aw) (ai _ (ai _ (kd (av P (n+deep+5)))))))) [some (.cell p),some d,some (nD deep),none,none,none,none,none,none] M) _
 simp only [aR,gp,eJ,fu,bw,bN,dM,bt,eE,List.getElem?_cons_zero,List.getElem?_cons_succ,Option.getD_some,Option.some.injEq,exists_eq_left',List.set_cons_zero,List.set_cons_succ]
 refine tk hp_ (n+deep+3) (many:=8) hp (by omega) (by decide) (by decide) fun kind M1 hkd q1 k1=>?_
 refine tk hp_ (n+deep+3) (many:=20) q1 (by omega) (by decide) (by decide) fun pick M2 hpk q2 k2=>?_
 refine tk hp_ (n+deep+3) (many:=9) q2 (by omega) (by decide) (by decide) fun num M3 hnm q3 k3=>?_
 rw [ng]
 have K3:=(k1.trans k2).trans k3
 have mid:aj (ai _ (ai _ (kd (av P (n+deep+5)))) [some (.cell p),some d,some (nD deep),some (nD kind),some (nD pick),some (.int ((num:Int)-2)),none,none,none] M3) (jU fun d' M'=>Th (k+1) (L+1) d'/\aQ M' p (B+6*(deep+1))/\bI p M M'):=
  sL (bo (Ck hp_ ht_ hw_ (n+deep) hd hk h6 hL q3 (by omega) hkd hpk) fun fl M' hf=>by
   cases fl with
   |next Z=>exact ⟨hf.1,hf.2.1.mono (by omega),K3.trans hf.2.2⟩
   |ret e=>exact ⟨hf.1,hf.2.1.mono (by omega),K3.trans hf.2.2⟩
   |exc x Z=>exact hf.elim)
 refine aR.mp ?_
 cases d with
 |fn j=>exact absurd hd (by cases k<;>exact id)
 |exc y p=>exact absurd hd (by cases k<;>exact id)
 | tup xs =>
   have ne:=BC (M:=M3) hd (by omega)
   by_cases hc:xs≠[]/\0<deep/\4<pick
   ·obtain ⟨c1,c2,c3⟩:=hc
    have lx:0<xs.length:=List.length_pos_iff.mpr c1
    have ei:xs.isEmpty=false:=by cases xs with|nil=>exact absurd rfl c1|cons _ _=>rfl
    rw [ei] at ne
    refine iO (aO (by simp [bX,ne];omega)) ?_
    have hx:=hd.tup
    have hxl:=hx.1
    cases k with
    |zero=>exact hd.elim
    | succ k' =>
      have hx':∀d∈xs,Th k' L d:=hd.2
      simp only [aR,gp,cB,eJ,jB,lD,oB,fu,bw,bN,dM,bt,eE,ff,List.getElem?_cons_zero,List.getElem?_cons_succ,Option.getD_some,Option.some.injEq,exists_eq_left',List.set_cons_zero,List.set_cons_succ,oo,gE,ng]
      refine tk hp_ (n+deep+3) q3 (by omega) lx (by omega) fun at_ M4 hat q4 k4=>?_
      refine ⟨rfl,rfl,Fo hat ?_⟩
      refine ⟨xs[at_],?_,?_⟩
      ·show (bV xs.length (at_:Int)).bind (fun j=>xs[j]?)=_
       rw [gq hat];simp [hat]
      refine bo (ih c2 (hx' _ (List.getElem_mem hat)) (by omega) q4 (by omega)) fun e M5 ⟨he,q5,k5⟩=>?_
      refine ⟨aM (by simp),ma.mpr ⟨aM (by simp;omega),rfl,rfl,A6 hat ?_⟩⟩
      refine ma.mpr ⟨aM (by simp;omega),.tup_of (by simp;omega) fun d hd=>?_,q5.mono (by omega),(K3.trans k4).trans k5⟩
      rcases List.mem_append.mp hd with z|z
      ·rcases List.mem_append.mp z with z|z
       ·exact (hx' d (List.mem_of_mem_take z)).mono (by omega) (by omega)
       ·rw [List.mem_singleton.mp z];exact he
      ·exact (hx' d (List.mem_of_mem_drop z)).mono (by omega) (by omega)
   ·refine aI (aO ?_) mid
    simp [bX,ne]
    by_cases e0:xs=[]
    ·simp [e0]
    ·right
     refine ⟨e0,?_⟩
     have hc':¬ (0<deep/\4<pick):=fun z=>hc ⟨e0,z⟩
     omega
 |_=>exact aI (aO (by simp [bX])) mid
theorem v8:∀(deep n:Nat) {k L p B:Nat}{d:D}{M:Mem},deep<=9->Th k L d->k<=50->6<=L->L<=50->aQ M p B->B+10*deep<=700000->
 aj (av P (n+deep+6) 72 [.cell p,d,nD deep] M) fun d' M'=>Th (k+1) (L+1) d'/\aQ M' p (B+6*(deep+1))/\bI p M M'
 |0,n,k,L,p,B,d,M,h9,hd,hk,h6,hL,hp,hB=>tj hp_ ht_ hw_ n 0 hd hk h6 hL hp (by omega) (fun z=>absurd z (by decide))
 |deep+1,n,k,L,p,B,d,M,h9,hd,hk,h6,hL,hp,hB=>tj hp_ ht_ hw_ n (deep+1) hd hk h6 hL hp (by omega) (fun _ {k' B' d' M'} h1 h2 h3 h4=>by
  rw [show (((deep+1:Nat):Int)-1)=(deep:Int) by omega]
  exact v8 deep n (by omega) h1 h2 h6 hL h3 (by omega))
end
end LD
namespace LD
open PySem
section
variable {P:Nat->Option Df}{M:Mem}{k L:Nat}{d:D}
theorem u9 (h:yw P)(h13:P 13=some ⟨1,1,c9⟩)(n:Nat)(hd:Th k L d)(hL:L<=100)(hb:fc d=true):av P (n+8) 13 [d] M=.ok .non M:=by
 refine aE (aK h13 rfl ?_)
 simp [c9,pz h n hd hL,hb]
theorem zI (h:yw P)(h13:P 13=some ⟨1,1,c9⟩)(n:Nat)(hd:Th k L d)(hL:L<=100)(hb:fc d=false):av P (n+8) 13 [d] M=.err (.exc 3 none) M:=by
 refine eQ (fE h13 rfl ?_)
 simp [c9,pz h n hd hL,hb]
 decide
end
section
variable {P:Nat->Option Df}(h:oN P){M:Mem}
include h
theorem sv (n:Nat){z:Str}(hz:aG 64 (.str z)=true):av P (n+1) 40 [.str z,.str z] M=.ok (.bl true) M:=by
 refine aE (aK h.same rfl ?_)
 have e:bP .eq (.str z) (.str z) M=some true:=rX hz hz (by simp [view,bC])
 show aj (dF (av P n) [some (.str z),some (.str z)] M) _
 unfold dF
 refine aI rfl (aI rfl (aI rfl (bM rfl (v:=.bl true) ?_ ⟨rfl,rfl⟩)))
 show ((cZ M (bP .eq (.str z) (.str z) M)).bind fun b M=>Res.ok (D.bl b) M)=_
 rw [e];rfl
end
end LD
namespace LD
open PySem
def lO (i:Int):List D:=[.exc 0 (some i),.exc 1 (some i),.exc 2 (some i),.exc 3 none,.exc 4 none,.exc 5 none,.exc 6 none,.exc 7 none,.exc 8 none,.exc 9 none,.exc 10 none,.exc 11 none,.exc 12 none,.exc 13 none]
def nz:D->D
 |.exc 0 (some i)=>.lst [.str "row",.int i]
 |.exc 1 (some i)=>.lst [.str "rule",.int i]
 |.exc 2 (some i)=>.lst [.str "step",.int i]
 |.exc 3 _=>.lst [.str "machine"]
 |.exc 4 _=>.lst [.str "long"]
 |.exc 5 _=>.lst [.str "word"]
 |.exc 6 _=>.lst [.str "work"]
 |.exc 7 _=>.lst [.str "bound"]
 |.exc 8 _=>.lst [.str "many"]
 |.exc 9 _=>.lst [.str "place"]
 |.exc 10 _=>.lst [.str "deed"]
 |.exc 11 _=>.lst [.str "nothing"]
 |.exc 12 _=>.lst [.str "text"]
 |.exc 13 _=>.lst [.str "line"]
 |_=>.non
theorem rZ {f:Str}{c j:Nat}{i:Int}{Z:Env}{M:Mem}(h:Z[j]?.getD none=some (.exc c (some i)))(e:fU c=f):k9 f (ag j) Z M=.ok (.int i) M:=by
 unfold k9 ag
 rw [h]
 show (if fU c=f then Res.ok (D.int i) M else .bad)=_
 rw [if_pos e]
theorem xR {x:D}{a:GE}{Z:Env}{M:Mem}{y:D}(e:a Z M=.ok y M):bB false (af (gC x) (af a au)) Z M=.ok (.lst [x,y]) M:=by
 exact qs (aZ rfl (aZ e rfl)) (tqq rfl)
section
variable {P:Nat->Option Df}(h75:P 75=some ⟨1,3,ee⟩){M:Mem}
include h75
theorem w5 (n:Nat){i:Int}{d:D}(hd:d∈lO i):av P (n+1) 75 [d] M=.ok (nz d) M:=by
 refine aE (aK h75 rfl ?_)
 show aj (ee (av P n) [some d,none,none] M) _
 simp only [lO,List.mem_cons,List.not_mem_nil,or_false] at hd
 rcases hd with rfl|rfl|rfl|rfl|rfl|rfl|rfl|rfl|rfl|rfl|rfl|rfl|rfl|rfl
 ·exact cv rfl (cv rfl (cv rfl (cv rfl (cv rfl (aI rfl (bM rfl (xR (rZ rfl rfl)) ⟨rfl,rfl⟩))))))
 ·exact cv rfl (cv rfl (cv rfl (cv rfl (cv rfl (aI rfl (aI rfl (bM rfl (xR (rZ rfl rfl)) ⟨rfl,rfl⟩)))))))
 ·exact cv rfl (cv rfl (cv rfl (cv rfl (cv rfl (aI rfl (aI rfl (aI rfl (bM rfl (xR (rZ rfl rfl)) ⟨rfl,rfl⟩))))))))
 all_goals exact c8 (by rfl)
end
section
variable {P:Nat->Option Df}(h:oN P){M:Mem}
include h
theorem pZ (n:Nat){ds:List D}(hz:ds.length<=sz)(hs:∀d∈ds,av P n 40 [d,d] M=.ok (.bl true) M):av P (n+1) 40 [.lst ds,.lst ds] M=.ok (.bl true) M:=by
 refine aE (aK h.same rfl ?_)
 show aj (dF (av P n) [some (.lst ds),some (.lst ds)] M) _
 unfold dF
 exact aI rfl (aI rfl (aI rfl (aI rfl (aI rfl (A9 h n rfl rfl rfl rfl rfl rfl hz hs)))))
theorem yY (n:Nat)(i:Int):av P (n+1) 40 [.int i,.int i] M=.ok (.bl true) M:=by
 refine aE (aK h.same rfl ?_)
 show aj (dF (av P n) [some (.int i),some (.int i)] M) _
 unfold dF
 exact aI rfl (aI rfl (bM rfl (v:=.bl (i==i)) rfl ⟨by simp,rfl⟩))
end
end LD
namespace LD
open PySem
@[simp] theorem sD {Z:Env}{M:Mem}{a:GE}{kf:Fl->Mem->Prop}{c:Nat}:aj (jk c a Z M) kf↔aj (a Z M) fun x M=>∃i,x=.int i/\i.natAbs<2^64/\kf (.exc (.exc c (some i)) Z) M:=by
 unfold jk
 cases a Z M with
 | ok x M1 =>
   cases x with
   |int i=>by_cases h:i.natAbs<2^64<;>simp [h]
   |_=>simp
 |err=>exact Iff.rfl
 |bad=>exact Iff.rfl
abbrev lE (m:bu):D->Bool:=bc 0 ((m.deeds.length:Int)-1)
section
variable {P:Nat->Option Df}(h:HasM0 P){M:Mem}{k L:Nat}{d:D}
include h
theorem uC (n:Nat){m:bu}(hd:Th k L d):av P (n+2) 16 [m.d,d] M=.ok (.bl (lE m d)) M:=by
 refine aE (aK h.is_deed_number rfl ?_)
 simp [eC,bu.d,bV,j8 h.q _ hd]
theorem Ec (n:Nat){m:bu}{ds:List D}(hd:∀d∈ds,Th k L d)(hg:∀d∈ds,lE m d=true):av P (n+3) 17 [m.d,.lst ds] M=.ok .non M:=by
 refine aE (aK h.need_numbers rfl ?_)
 show aj (cH (av P (n+2)) [some m.d,some (.lst ds),none,none] M) _
 unfold cH
 refine aI rfl ?_
 simp only [aR,iG,mY,bt]
 refine ⟨_,rfl,rfl,?_⟩
 refine ft (ds:=dn 0 ds) (fun i Z M'=>M'=M/\∃a b,Z=[some m.d,some (.lst ds),a,b]) (fun _ _ _ e=>rfl) ⟨rfl,none,none,rfl⟩ ?_ ?_
 ·rintro i e Z M' he ⟨rfl,a,b,rfl⟩
  rw [eR] at he
  obtain ⟨x,hx,rfl⟩:=Option.map_eq_some_iff.mp he
  have hm:=List.mem_of_getElem? hx
  refine ⟨_,rfl,aI (aO ?_) ⟨_,rfl,rfl,_,_,rfl⟩⟩
  simp [uC h n (hd x hm),hg x hm]
 ·rintro Z M' ⟨rfl,a,b,rfl⟩
  exact ⟨rfl,rfl⟩
theorem Bz (n:Nat){m:bu}{ds:List D}{i:Nat}{x:D}(hd:∀d∈ds,Th k L d)(hx:ds[i]?=some x)(hb:lE m x=false)(hg:∀j y,j<i->ds[j]?=some y->lE m y=true)(hi:i<1000000):av P (n+3) 17 [m.d,.lst ds] M=.err (.exc 0 (some (i:Int))) M:=by
 refine eQ (fE h.need_numbers rfl ?_)
 show aj (cH (av P (n+2)) [some m.d,some (.lst ds),none,none] M) _
 unfold cH
 refine aI rfl ?_
 simp only [aR,iG,mY,bt]
 refine ⟨_,rfl,rfl,?_⟩
 refine ic (ds:=dn 0 ds) (fun j fl M'=>M'=M/\((j<=i/\∃a b,fl=.next [some m.d,some (.lst ds),a,b])\/(i<j/\∃Z,fl=.exc (.exc 0 (some (i:Int))) Z))) (fun _ _ _ e=>rfl) ⟨rfl,.inl ⟨Nat.zero_le _,none,none,rfl⟩⟩ ?_ ?_
 ·rintro j e fl M' he ⟨rfl,hj⟩
  rw [eR] at he
  obtain ⟨y,hy,rfl⟩:=Option.map_eq_some_iff.mp he
  rcases hj with ⟨hj,a,b,rfl⟩|⟨hj,Z,rfl⟩
  ·show aj (ai _ aw [some m.d,some (.lst ds),some (.int ((0+j:Nat):Int)),some y] M') _
   rw [Nat.zero_add]
   have e:=uC h n (m:=m) (M:=M') (hd y (List.mem_of_getElem? hy))
   by_cases c:j=i
   ·subst c
    rw [hx] at hy;cases hy
    rw [hb] at e
    refine iO (aO (by simp [e])) ?_
    simp only [aR,sD,bt]
    exact ⟨_,rfl,_,rfl,by omega,rfl,.inr ⟨Nat.lt_succ_self _,_,rfl⟩⟩
   ·rw [hg j y (by omega) hy] at e
    exact aI (aO (by simp [e])) ⟨rfl,.inl ⟨by omega,_,_,rfl⟩⟩
  ·exact ⟨rfl,.inr ⟨by omega,_,rfl⟩⟩
 ·rintro fl M' ⟨rfl,hj⟩
  have hlt:=(List.getElem?_eq_some_iff.mp hx).1
  have:(dn 0 ds).length=ds.length:=iT ds 0
  rcases hj with ⟨hj,_⟩|⟨_,Z,rfl⟩
  ·omega
  ·exact ⟨rfl,rfl⟩
theorem By (n:Nat){m:bu}(hd:bX .list d=some false):av P (n+3) 17 [m.d,d] M=.err (.exc 0 (some 0)) M:=by
 refine eQ (fE h.need_numbers rfl ?_)
 show aj (cH (av P (n+2)) [some m.d,some d,none,none] M) _
 unfold cH
 refine iO (aO (by simp [hd])) ?_
 simp only [aR,sD,dM]
 exact ⟨0,rfl,by decide,rfl,rfl⟩
theorem Bb (n:Nat){r:D}(hd:Th k L d)(hL:L<=100)(hb:fc d=false):av P (n+9) 18 [d,r] M=.err (.exc 3 none) M:=by
 refine eQ (fE h.need_row rfl ?_)
 show aj (dD (av P (n+8)) [some d,some r] M) _
 unfold dD
 simp only [aR,jJ,fj,bw,bN,bt]
 refine ⟨_,rfl,?_⟩
 rw [zI h.q h.need_machine n hd hL hb]
 exact ⟨rfl,rfl⟩
theorem uM (n:Nat){m:bu}{r:D}{x:D}(hm:cK m)(e:av P (n+8) 17 [m.d,r] M=.err x M):av P (n+9) 18 [m.d,r] M=.err x M:=by
 refine eQ (fE h.need_row rfl ?_)
 show aj (dD (av P (n+8)) [some m.d,some r] M) _
 unfold dD
 simp only [aR,jJ,fj,bw,bN,bt]
 refine ⟨_,rfl,?_⟩
 rw [u9 h.q h.need_machine n (j9 hm) (by decide) (lz hm)]
 show aj (ai _ _ [some m.d,some r] M) _
 simp only [aR,jJ,fj,bw,bN,bt]
 refine ⟨_,rfl,_,rfl,?_⟩
 rw [e]
 exact ⟨rfl,rfl⟩
theorem Bc (n:Nat){m:bu}{ds:List D}(hm:cK m)(e:av P (n+8) 17 [m.d,.lst ds] M=.ok .non M)(hl:40<ds.length):av P (n+9) 18 [m.d,.lst ds] M=.err (.exc 4 none) M:=by
 refine eQ (fE h.need_row rfl ?_)
 show aj (dD (av P (n+8)) [some m.d,some (.lst ds)] M) _
 unfold dD
 simp only [aR,jJ,fj,bw,bN,bt]
 refine ⟨_,rfl,?_⟩
 rw [u9 h.q h.need_machine n (j9 hm) (by decide) (lz hm)]
 show aj (ai _ _ [some m.d,some (.lst ds)] M) _
 simp only [aR,jJ,fj,bw,bN,bt]
 refine ⟨_,rfl,_,rfl,?_⟩
 rw [e]
 refine iO (aO ?_) ?_
 ·simp only [jw,iU,ff,bw,bN,bt,dM]
  refine ⟨_,rfl,_,rfl,_,rfl,?_,rfl⟩
  exact decide_eq_true (by omega)
 ·exact ⟨rfl,rfl⟩
end
end LD
namespace LD
open PySem
section
variable {Z:Env}{M:Mem}{kf:Fl->Mem->Prop}{rest gb:GS}{a:GE}{s:GA}
theorem ne_self {z:Str}(hz:aG 64 (.str z)=true):bP .ne (.str z) (.str z) M=some false:=oH (v:=true) (x:=.str z) (y:=.str z) hz hz (by simp [view,bC])
theorem Mk {c:Call}{f:Nat}{xs:List D}{z:Str}(hz:aG 64 (.str z)=true)(es:s Z M=.ok xs M)(ec:c f xs M=.ok (.str z) M):(aL (a7 .ne (az f c s) (gC (.str z))):GT) Z M=.ok false M:=by
 refine aO ?_
 simp only [jw,iU,dM]
 rw [dU es,ec,gK]
 exact ⟨_,ne_self hz,false,rfl,rfl,rfl⟩
theorem IQ {j l:Nat}{xs:List D}{v:Nat}(h1:Z[j]?.getD none=some (.lst xs))(h2:Z[l]?.getD none=some (nD v))(hz:xs.length<=100):dH false false true (ag j) gN (ag l) Z M=.ok (.lst (xs.take v)) M:=by
 refine aE ?_
 simp only [oB,bt,dM]
 exact ⟨_,h1,_,h2,rfl,rfl,wa.mpr ⟨aM (by simp;omega),rfl,rfl⟩⟩
theorem Er {j l:Nat}{xs:List D}{v:Nat}(h1:Z[j]?.getD none=some (.lst xs))(h2:Z[l]?.getD none=some (nD v))(hz:xs.length<=100):dH false true false (ag j) (ag l) gN Z M=.ok (.lst (xs.drop v)) M:=by
 refine aE ?_
 simp only [oB,bt,dM]
 exact ⟨_,h1,_,h2,rfl,rfl,A8.mpr ⟨aM (by simp;omega),rfl,rfl⟩⟩
end
theorem BA {m:bu}{i:Nat}(hi:i<m.deeds.length):lE m (nD i)=true:=by
 show (decide ((0:Int)<=(i:Int))&&decide ((i:Int)<=(m.deeds.length:Int)-1))=true
 rw [decide_eq_true (by omega),decide_eq_true (by omega)];rfl
def zeros (n:Nat):List D:=List.replicate n (.int 0)
end LD
namespace LD
open PySem
structure Good (b:Nat) (x:D):Prop where
 sh:(toPy x).showable=true
 short:PyData.leavesShort 40 (toPy x)=true
 bulk:(toPy x).bulk<=b
def yd (b:Nat)(x:D):Bool:=(toPy x).showable&&(PyData.leavesShort 40 (toPy x)&&decide ((toPy x).bulk<=b))
theorem B3 {b:Nat}{x:D}(h:yd b x=true):Good b x:=by
 unfold yd at h
 rw [Bool.and_eq_true,Bool.and_eq_true] at h
 exact ⟨h.1,h.2.1,of_decide_eq_true h.2.2⟩
theorem pK {b:Nat}:∀{ds:List D},(∀d∈ds,Good b d)->PyData.showableAll (bS ds)=true/\PyData.leavesShortAll 40 (bS ds)=true/\PyData.bulkAll (bS ds)<=(b+1)*ds.length
 |[],_=>⟨rfl,rfl,Nat.zero_le _⟩
 | d :: r, h => by
   obtain ⟨a2,a3,a4⟩:=pK (ds:=r) fun x hx=>h x (List.mem_cons_of_mem _ hx)
   obtain ⟨b2,b3,b4⟩:=h d List.mem_cons_self
   refine ⟨?_,?_,?_⟩
   ·show PyData.showableAll (toPy d::bS r)=true
    rw [PyData.showableAll,b2,a2];rfl
   ·show PyData.leavesShortAll 40 (toPy d::bS r)=true
    rw [PyData.leavesShortAll,b3,a3];rfl
   ·show PyData.bulkAll (toPy d::bS r)<=_
    rw [PyData.bulkAll,List.length_cons,Nat.mul_succ];omega
theorem Good.lst {b:Nat}{ds:List D}(h:∀d∈ds,Good b d):Good ((b+1)*ds.length) (.lst ds):=by
 obtain ⟨a2,a3,a4⟩:=pK h
 refine ⟨?_,?_,?_⟩
 ·show PyData.showable (.list (bS ds))=true
  rw [PyData.showable];exact a2
 ·show PyData.leavesShort 40 (.list (bS ds))=true
  rw [PyData.leavesShort];exact a3
 ·show PyData.bulk (.list (bS ds))<=_
  rw [PyData.bulk];exact a4
theorem Good.tup {b:Nat}{ds:List D}(h:∀d∈ds,Good b d):Good ((b+1)*ds.length) (.tup ds):=by
 obtain ⟨a2,a3,a4⟩:=pK h
 refine ⟨?_,?_,?_⟩
 ·show PyData.showable (.tuple (bS ds))=true
  rw [PyData.showable];exact a2
 ·show PyData.leavesShort 40 (.tuple (bS ds))=true
  rw [PyData.leavesShort];exact a3
 ·show PyData.bulk (.tuple (bS ds))<=_
  rw [PyData.bulk];exact a4
theorem Good.mono {b b':Nat}{x:D}(h:Good b x)(hb:b<=b'):Good b' x:=⟨h.sh,h.short,tqh h.bulk hb⟩
def pj (x:D):D:=.str (toPy x).shown
theorem DF {s:GA}{Z:Env}{M:Mem}{k L b:Nat}{x:D}(es:s Z M=.ok [x] M)(ht:Th k L x)(hk:k<=64)(hg:Good b x)(hb:b<=100000):j4 s Z M=.ok (pj x) M:=by
 have pu:aG 64 x=true:=(ht.mono hk (tqg _)).pure
 have vw:=pV M 64 64 x pu
 have hs:oi M x=true:=by
  unfold oi iF
  rw [vw,pu,hg.sh,Bool.true_and,Bool.true_and]
  refine decide_eq_true ?_
  have h1:=PyData.shown_le_bulk 40 (by decide) (toPy x) hg.short
  have h2:=hg.bulk
  show _<=2^24
  omega
 unfold j4
 rw [es]
 show (if oi M x=true then Res.ok (D.str (iF M x)) M else .bad)=_
 rw [if_pos hs]
 unfold iF pj
 rw [vw]
theorem Hc {x:D}{M:Mem}:bP .ne (pj x) (pj x) M=some false:=by
 show (l7 M (.str _) (.str _)).map (!·)=_
 rw [rT]
 simp
def Bd (m:bu):D->D
 | .lst ds => match ds.findIdx? fun d => !lE m d with
   |some i=>.exc 0 (some (i:Int))
   |none=>if 40<ds.length then .exc 4 none else .non
 |_=>.exc 0 (some 0)
theorem u4 {m:bu}:∀{ds:List D},(∀d∈ds,lE m d=true)->∃r:List Nat,ds=r.map nD/\∀i∈r,i<m.deeds.length
 |[],_=>⟨[],rfl,fun _ h=>nomatch h⟩
 | d :: ds, h => by
   obtain ⟨r,rfl,hr⟩:=u4 (ds:=ds) fun x hx=>h x (List.mem_cons_of_mem _ hx)
   have hd:=h d List.mem_cons_self
   cases d with
   | int i =>
     have hd:(decide ((0:Int)<=i)&&decide (i<=(m.deeds.length:Int)-1))=true:=hd
     rw [Bool.and_eq_true,decide_eq_true_eq,decide_eq_true_eq] at hd
     refine ⟨i.toNat::r,?_,fun j hj=>?_⟩
     ·show _=nD i.toNat::r.map nD
      rw [show nD i.toNat=D.int i by show D.int (i.toNat:Int)=_;rw [Int.toNat_of_nonneg hd.1]]
     ·rcases List.mem_cons.mp hj with rfl|hj
      ·omega
      ·exact hr j hj
   |_=>cases hd
inductive eI (m:bu):D->D->Prop
 |ok (r:List Nat) (h:i9 m r):eI m (qX r) .non
 |long (ds:List D) (h:∀d∈ds,lE m d=true) (hl:40<ds.length):eI m (.lst ds) (.exc 4 none)
 |bad (ds:List D) (i:Nat) (x:D) (hx:ds[i]?=some x) (hb:lE m x=false) (hg:∀j y,j<i->ds[j]?=some y->lE m y=true):eI m (.lst ds) (.exc 0 (some (i:Int)))
 |not (x:D) (h:bX .list x=some false):eI m x (.exc 0 (some 0))
theorem uL {m:bu}{k L:Nat}{x:D}(hx:Th k L x):eI m x (Bd m x):=by
 cases x with
 | lst ds =>
   show eI m _ (match ds.findIdx? fun d=>!lE m d with|some i=>D.exc 0 (some (i:Int))|none=>if 40<ds.length then .exc 4 none else .non)
   cases e:ds.findIdx? fun d=>!lE m d with
   | some i =>
     obtain ⟨hi,h1,h2⟩:=List.findIdx?_eq_some_iff_getElem.mp e
     refine .bad ds i ds[i] (List.getElem?_eq_getElem hi) (by simpa using h1) fun j y hj hy=>?_
     obtain ⟨hj',rfl⟩:=List.getElem?_eq_some_iff.mp hy
     simpa using h2 j hj
   | none =>
     have h1:=List.findIdx?_eq_none_iff.mp e
     have h2:∀d∈ds,lE m d=true:=fun d hd=>by simpa using h1 d hd
     show eI m _ (if 40<ds.length then D.exc 4 none else .non)
     by_cases c:40<ds.length
     ·rw [if_pos c];exact .long ds h2 c
     ·rw [if_neg c]
      obtain ⟨r,rfl,hr⟩:=u4 h2
      exact .ok r ⟨by simpa using c,hr⟩
 |frz ds=>cases k<;>exact hx.elim
 |cell j=>cases k<;>exact hx.elim
 |fn j=>cases k<;>exact hx.elim
 |exc y p=>cases k<;>exact hx.elim
 |_=>exact .not _ rfl
section
variable {P:Nat->Option Df}(h:HasM0 P){M:Mem}{m:bu}{k L:Nat}
include h
theorem va (n:Nat){x v:D}(hm:cK m)(hx:Th (k+1) L x)(hL:L<=900000)(hv:eI m x v)(hn:v≠.non):av P (n+9) 18 [m.d,x] M=.err v M:=by
 cases hv with
 |ok r hr=>exact absurd rfl hn
 |long ds hg hl=>exact Bc h n hm (Ec h (n+5) hx.2 hg) hl
 | bad ds i y hy hb hg =>
   have:=(List.getElem?_eq_some_iff.mp hy).1
   have:=hx.1
   exact uM h n hm (Bz h (n+5) hx.2 hy hb hg (by omega))
 |not x hi=>exact uM h n hm (By h (n+5) hi)
end
theorem Fh {m:bu}{Z:Env}{M:Mem}{j:Nat}(e:Z[j]?.getD none=some m.d):aH false .sub (bG .len (af (a8 (ag j) (gI 2)) au)) (gI 1) Z M=.ok (.int ((m.deeds.length:Int)-1)) M:=by
 refine aE ?_
 simp only [eE,ff,bw,bN,lD,bt,dM]
 refine ⟨_,e,.tup (m.deeds.map bq.d),rfl,oo.mpr (ng.mpr ⟨?_,rfl⟩)⟩
 rw [List.length_map]
theorem mG {ds:List D}{Z:Env}{M:Mem}{j:Nat}(e:Z[j]?.getD none=some (.lst ds)):bG .len (af (ag j) au) Z M=.ok (nD ds.length) M:=by
 unfold bG
 rw [aZ (bA e) rfl]
 rfl
section
variable {P:Nat->Option Df}(h:pO P){M:Mem}{m:bu}{k L:Nat}
include h
theorem y8 (h90:P 90=some ⟨2,4,de⟩)(n:Nat){x v:D}(hm:cK m)(hx:Th (k+1) L x)(hL:L<=900000)(hv:eI m x v):av P (n+6) 90 [m.d,x] M=.ok (nz v) M:=by
 refine aE (aK h90 rfl ?_)
 show aj (de (av P (n+5)) [some m.d,some x,none,none] M) _
 unfold de
 have em:=sA h n (M:=M) (j9 hm) (by decide) (by decide)
 rw [lz hm] at em
 refine aI (iL (b:=true) (fK (j7 rfl em))) ?_
 have body:∀{ds:List D}{y:D}{a:D},(Th k L y)->(az 68 (av P (n+5)) (af (ag 3) (af (gI 0) (af (aH false .sub (bG .len (af (a8 (ag 0) (gI 2)) au)) (gI 1)) au)))) [some m.d,some (.lst ds),some a,some y] M=.ok (.bl (lE m y)) M:=fun {ds y a} hy=>
  (dU (aZ (bA rfl) (aZ rfl (aZ (Fh rfl) rfl)))).trans (jH h (n+3) hy _ _)
 cases hv with
 | not x hi =>
   refine bM (iL (b:=false) (fK ?_)) (v:=.lst [.str "row",.int 0]) rfl ⟨rfl,rfl⟩
   unfold bY
   show (cZ M (bX .list x)).bind _=_
   rw [hi];rfl
 | ok r hr =>
   refine aI rfl ?_
   simp only [aR,iG,mY,bt]
   refine ⟨_,rfl,rfl,?_⟩
   refine ft (ds:=dn 0 (r.map nD)) (fun i Z M'=>M'=M/\∃a b,Z=[some m.d,some (qX r),a,b]) (fun _ _ _ e=>rfl) ⟨rfl,none,none,rfl⟩ ?_ ?_
   ·rintro i e Z M' he ⟨rfl,a,b,rfl⟩
    rw [eR] at he
    obtain ⟨y,hy,rfl⟩:=Option.map_eq_some_iff.mp he
    obtain ⟨q,hq,rfl⟩:=List.mem_map.mp (List.mem_of_getElem? hy)
    refine ⟨_,rfl,aI (iL (b:=true) (fK ?_)) ⟨_,rfl,rfl,_,_,rfl⟩⟩
    have:=body (ds:=r.map nD) (y:=nD q) (a:=.int ((0+i:Nat):Int)) (by cases k<;>trivial)
    rw [BA (hr.2 q hq)] at this
    exact this
   ·rintro Z M' ⟨rfl,a,b,rfl⟩
    refine cV (v:=.non) ?_ ⟨rfl,rfl⟩
    unfold gV
    have e:(aL (a7 .gt (bG .len (af (ag 1) au)) (gI 40)):GT) [some m.d,some (qX r),a,b] M'=.ok false M':=by
     refine aO ?_
     simp only [jw,iU,dM]
     rw [mG (ds:=r.map nD) rfl,gK]
     refine ⟨_,rfl,_,rfl,decide_eq_false ?_,rfl⟩
     have:=hr.1
     simp;omega
    rw [e]
    rfl
 | long ds hg hl =>
   refine aI rfl ?_
   simp only [aR,iG,mY,bt]
   refine ⟨_,rfl,rfl,?_⟩
   refine ft (ds:=dn 0 ds) (fun i Z M'=>M'=M/\∃a b,Z=[some m.d,some (.lst ds),a,b]) (fun _ _ _ e=>rfl) ⟨rfl,none,none,rfl⟩ ?_ ?_
   ·rintro i e Z M' he ⟨rfl,a,b,rfl⟩
    rw [eR] at he
    obtain ⟨y,hy,rfl⟩:=Option.map_eq_some_iff.mp he
    have hm':=List.mem_of_getElem? hy
    refine ⟨_,rfl,aI (iL (b:=true) (fK ?_)) ⟨_,rfl,rfl,_,_,rfl⟩⟩
    have:=body (ds:=ds) (y:=y) (a:=.int ((0+i:Nat):Int)) (hx.2 y hm')
    rw [hg y hm'] at this
    exact this
   ·rintro Z M' ⟨rfl,a,b,rfl⟩
    refine cV (v:=.lst [.str "long"]) ?_ ⟨rfl,rfl⟩
    unfold gV
    have e:(aL (a7 .gt (bG .len (af (ag 1) au)) (gI 40)):GT) [some m.d,some (.lst ds),a,b] M'=.ok true M':=by
     refine aO ?_
     simp only [jw,iU,dM]
     rw [mG (ds:=ds) rfl,gK]
     exact ⟨_,rfl,_,rfl,decide_eq_true (by omega),rfl⟩
    rw [e]
    rfl
 | bad ds i y hy hb hg =>
   refine aI rfl ?_
   simp only [aR,iG,mY,bt]
   refine ⟨_,rfl,rfl,?_⟩
   refine wI (ds:=dn 0 ds) (fun j Z M'=>M'=M/\j<=i/\∃a b,Z=[some m.d,some (.lst ds),a,b]) (fun d M'=>d=.lst [.str "row",.int (i:Int)]/\M'=M) (fun _ _ _ e=>rfl) (fun _ _ _=>rfl) ⟨rfl,Nat.zero_le _,none,none,rfl⟩ ?_ ?_ ?_
   ·rintro j e Z M' he ⟨rfl,hj,a,b,rfl⟩
    rw [eR] at he
    obtain ⟨z,hz,rfl⟩:=Option.map_eq_some_iff.mp he
    have ez:=body (ds:=ds) (y:=z) (a:=.int ((0+j:Nat):Int)) (hx.2 z (List.mem_of_getElem? hz))
    refine ⟨_,rfl,?_⟩
    by_cases c:j=i
    ·subst c
     rw [hy] at hz;cases hz
     rw [hb] at ez
     refine bM (iL (b:=false) (fK ez)) (xR (bA rfl)) (.inr ⟨_,rfl,?_,rfl⟩)
     rw [Nat.zero_add]
    ·rw [hg j z (by omega) hz] at ez
     exact aI (iL (b:=true) (fK ez)) (.inl ⟨_,rfl,rfl,by omega,_,_,rfl⟩)
   ·rintro Z M' ⟨rfl,hj,_⟩
    have hlt:=(List.getElem?_eq_some_iff.mp hy).1
    have:(dn 0 ds).length=ds.length:=iT ds 0
    omega
   ·rintro d M' ⟨rfl,rfl⟩
    exact ⟨rfl,rfl⟩
end
theorem uG {m:bu}{x v:D}(hv:eI m x v)(hn:v≠.non):∃i,v∈lO i:=by
 cases hv with
 |ok r hr=>exact absurd rfl hn
 |long ds hg hl=>exact ⟨0,by simp [lO]⟩
 |bad ds i y hy hb hg=>exact ⟨i,by simp [lO]⟩
 |not x hi=>exact ⟨0,by simp [lO]⟩
theorem wd {m:bu}{x v:D}(hv:eI m x v)(hn:v≠.non):jA (nz v)=false:=by
 cases hv with
 |ok r hr=>exact absurd rfl hn
 |long ds hg hl=>rfl
 |bad ds i y hy hb hg=>rfl
 |not x hi=>rfl
end LD
namespace LD
open PySem
theorem B4 {i:Int}{x:D}(h:x∈lO i):∃c p,x=.exc c p:=by
 simp only [lO,List.mem_cons,List.not_mem_nil,or_false] at h
 rcases h with rfl|rfl|rfl|rfl|rfl|rfl|rfl|rfl|rfl|rfl|rfl|rfl|rfl|rfl<;>exact ⟨_,_,rfl⟩
def items:List D:=(List.range 20).map (fun (k:Nat)=>nD k)++[.int (-1),.int (-2),.int (10^20),.bl true,.bl false,.non,.str "0",.lst [.int 0],.tup [.int 0],.lst [],.str "",.str "turn",.str "join",.str "move",.str "put",.str "Turn",.tup []]
theorem jr {x:D}(h:x∈items):Th 2 200 x/\Good 5 x:=by
 have e:items.all (fun x=>um 2 200 x&&yd 5 x)=true:=by decide +kernel
 have q:=List.all_eq_true.mp e x h
 rw [Bool.and_eq_true] at q
 exact ⟨pY q.1,B3 q.2⟩
theorem eA {i:Nat}(h:i<20):nD i∈items:=List.mem_append_left _ (List.mem_map.mpr ⟨i,List.mem_range.mpr h,rfl⟩)
structure Itm (n:Nat) (xs:List D):Prop where
 len:xs.length<=n
 all:∀x∈xs,x∈items
structure Thing (x:D):Prop where
 th:Th 3 200 x
 good:Good 10000 x
theorem Itm.lst {n:Nat}{xs:List D}(h:Itm n xs)(hn:n<=200):Thing (.lst xs):=by
 have:=h.len
 exact ⟨.lst_of (by omega) fun d hd=>(jr (h.all d hd)).1,(Good.lst fun d hd=>(jr (h.all d hd)).2).mono (by omega)⟩
theorem Itm.tup {n:Nat}{xs:List D}(h:Itm n xs)(hn:n<=200):Thing (.tup xs):=by
 have:=h.len
 exact ⟨.tup_of (by omega) fun d hd=>(jr (h.all d hd)).1,(Good.tup fun d hd=>(jr (h.all d hd)).2).mono (by omega)⟩
theorem Itm.app {n n':Nat}{xs ys:List D}(h:Itm n xs)(h':Itm n' ys):Itm (n+n') (xs++ys):=by
 have:=h.len
 have:=h'.len
 refine ⟨by rw [List.length_append];omega,fun x hx=>?_⟩
 rcases List.mem_append.mp hx with z|z
 ·exact h.all x z
 ·exact h'.all x z
theorem Itm.take {n:Nat}{xs:List D}(h:Itm n xs)(k:Nat):Itm n (xs.take k):=⟨by have:=h.len;rw [List.length_take];omega,fun x hx=>h.all x (List.mem_of_mem_take hx)⟩
theorem Itm.drop {n:Nat}{xs:List D}(h:Itm n xs)(k:Nat):Itm n (xs.drop k):=⟨by have:=h.len;rw [List.length_drop];omega,fun x hx=>h.all x (List.mem_of_mem_drop hx)⟩
theorem Itm.one {x:D}(h:x∈items):Itm 1 [x]:=⟨tqg _,fun y hy=>by rw [List.mem_singleton.mp hy];exact h⟩
theorem Itm.put {n k:Nat}{xs:List D}{x:D}(h:Itm n xs)(hx:x∈items):Itm (n+1) (xs.take k++[x]++xs.drop k):=by
 have:=h.len
 exact ⟨by simp;omega,(((h.take k).app (.one hx)).app (h.drop k)).all⟩
theorem Itm.mono {n n':Nat}{xs:List D}(h:Itm n xs)(hn:n<=n'):Itm n' xs:=⟨tqh h.len hn,h.all⟩
theorem Itm.zeros (n:Nat):Itm n (zeros n):=⟨by simp [LD.zeros],fun x hx=>by rw [(List.mem_replicate.mp hx).2];exact eA (i:=0) (by decide)⟩
theorem Dz {m:bu}{r:List Nat}{n:Nat}(hm:cK m)(hr:∀i∈r,i<m.deeds.length)(hl:r.length<=n):Itm n (r.map nD):=by
 have:=hm.d6
 refine ⟨by rw [List.length_map];exact hl,fun x hx=>?_⟩
 obtain ⟨i,hi,rfl⟩:=List.mem_map.mp hx
 exact eA (by have:=hr i hi;omega)
section
variable {Z:Env}{M:Mem}{a b:GE}
theorem D0 {v c:Nat}(e:a Z M=.ok (nD v) M):aH false .add a (gC (.int (c:Int))) Z M=.ok (nD (v+c)) M:=by
 unfold aH
 rw [e]
 show Res.ok (D.int ((v:Int)+(c:Int))) M=_
 rw [show ((v:Int)+(c:Int))=((v+c:Nat):Int) by omega]
theorem Iq {xs:List D}{v:Nat}(h1:a Z M=.ok (.lst xs) M)(hz:xs.length<=1000):dH false false true a gN (gC (.int (v:Int))) Z M=.ok (.lst (xs.take v)) M:=by
 unfold dH
 rw [h1]
 refine aE ?_
 exact wa.mpr ⟨aM (by simp;omega),rfl,rfl⟩
theorem Ei {j:Nat}{xs:List D}(h:Z[j]?.getD none=some (.lst xs)):aH false .add (bG .len (af (ag j) au)) (gI 1) Z M=.ok (nD (xs.length+1)) M:=D0 (c:=1) (mG h)
theorem E6 {xs ys:List D}(ea:a Z M=.ok (.lst xs) M)(eb:b Z M=.ok (.lst ys) M)(hl:(xs++ys).length<=1000):aH false .add a b Z M=.ok (.lst (xs++ys)) M:=by
 unfold aH
 rw [ea]
 show (b Z M).bind _=_
 rw [eb]
 show (if (xs++ys).length<=sz then (if false=true then _ else Res.ok (D.lst (xs++ys)) M) else .bad)=_
 rw [if_pos (aM (by omega))]
 rfl
end
end LD
namespace LD
open PySem
theorem nW {lo hi:Int}{d:D}(h:bc lo hi d=true)(h0:0<=lo):∃i:Nat,d=nD i/\lo<=(i:Int)/\(i:Int)<=hi:=by
 cases d with
 | int i =>
   have h:(decide (lo<=i)&&decide (i<=hi))=true:=h
   rw [Bool.and_eq_true,decide_eq_true_eq,decide_eq_true_eq] at h
   have e:((i.toNat:Nat):Int)=i:=Int.toNat_of_nonneg (Int.le_trans h0 h.1)
   exact ⟨i.toNat,by show D.int i=D.int _;rw [e],by rw [e];exact h.1,by rw [e];exact h.2⟩
 |_=>cases h
theorem wy {w:Nat}:∀{ds:List D},(∀d∈ds,bc 0 ((w:Int)-1) d=true)->∃t:List Nat,ds=t.map nD/\∀i∈t,i<w
 |[],_=>⟨[],rfl,fun _ h=>nomatch h⟩
 | d :: ds, h => by
   obtain ⟨r,rfl,hr⟩:=wy (ds:=ds) fun x hx=>h x (List.mem_cons_of_mem _ hx)
   obtain ⟨i,rfl,_,hi⟩:=nW (h d List.mem_cons_self) (Int.le_refl _)
   refine ⟨i::r,rfl,fun j hj=>?_⟩
   rcases List.mem_cons.mp hj with rfl|hj
   ·omega
   ·exact hr j hj
theorem tab_of {w:Nat}{d:D}(h:gR w d=true):∃t,d=bg t/\hZ w t:=by
 cases d with
 | tup ds =>
   have h:(ds.length==w&&ds.all (bc 0 ((w:Int)-1)))=true:=h
   rw [Bool.and_eq_true,beq_iff_eq,List.all_eq_true] at h
   obtain ⟨t,rfl,ht⟩:=wy h.2
   exact ⟨t,rfl,by simpa using h.1,ht⟩
 |_=>cases h
theorem vZ {w:Nat}:∀{ds:List D},(∀d∈ds,gR w d=true)->∃t:List (List Nat),ds=t.map bg/\∀x∈t,hZ w x
 |[],_=>⟨[],rfl,fun _ h=>nomatch h⟩
 | d :: ds, h => by
   obtain ⟨r,rfl,hr⟩:=vZ (ds:=ds) fun x hx=>h x (List.mem_cons_of_mem _ hx)
   obtain ⟨t,rfl,ht⟩:=tab_of (h d List.mem_cons_self)
   refine ⟨t::r,rfl,fun x hx=>?_⟩
   rcases List.mem_cons.mp hx with rfl|hx
   ·exact ht
   ·exact hr x hx
theorem EF {w:Nat}{d:D}(h:jC w d=true):∃t:List (List Nat),d=.tup (t.map bg)/\t.length=w/\∀x∈t,hZ w x:=by
 cases d with
 | tup ds =>
   have h:(ds.length==w&&ds.all (gR w))=true:=h
   rw [Bool.and_eq_true,beq_iff_eq,List.all_eq_true] at h
   obtain ⟨t,rfl,ht⟩:=vZ h.2
   exact ⟨t,rfl,by simpa using h.1,ht⟩
 |_=>cases h
theorem oF {d:D}(h:bc 1 3 d=true):∃c,d=nD c/\fQ c:=by
 obtain ⟨c,rfl,h1,h2⟩:=nW h (by decide)
 exact ⟨c,rfl,by omega,by omega⟩
theorem kY {p:Nat}{d:D}(h:bc 0 ((p:Int)-1) d=true):∃a,d=nD a/\a<p:=by
 obtain ⟨a,rfl,_,h2⟩:=nW h (Int.le_refl _)
 exact ⟨a,rfl,by omega⟩
theorem ET {w p:Nat}{d:D}(h:fg w p d=true):∃e:bq,d=e.d/\cT w p e:=by
 match d,h with
 | .tup (.str s :: ds), h =>
   have h:cR w p s ds=true:=h
   by_cases c1:s="turn"
   ·subst c1
    rw [nI] at h
    match ds,h with
    | [a, t, c], h =>
      have h:(bc 0 ((p:Int)-1) a&&(gR w t&&bc 1 3 c))=true:=h
      rw [Bool.and_eq_true,Bool.and_eq_true] at h
      obtain ⟨a,rfl,ha⟩:=kY h.1
      obtain ⟨t,rfl,ht⟩:=tab_of h.2.1
      obtain ⟨c,rfl,hc⟩:=oF h.2.2
      exact ⟨.turn a t c,rfl,ha,ht,hc⟩
   ·by_cases c2:s="join"
    ·subst c2
     rw [nH] at h
     match ds,h with
     | [a, o, t, c], h =>
       have h:(bc 0 ((p:Int)-1) a&&(bc 0 ((p:Int)-1) o&&(jC w t&&bc 1 3 c)))=true:=h
       rw [Bool.and_eq_true,Bool.and_eq_true,Bool.and_eq_true] at h
       obtain ⟨a,rfl,ha⟩:=kY h.1
       obtain ⟨o,rfl,ho⟩:=kY h.2.1
       obtain ⟨t,rfl,ht⟩:=EF h.2.2.1
       obtain ⟨c,rfl,hc⟩:=oF h.2.2.2
       exact ⟨.join a o t c,rfl,ha,ho,ht,hc⟩
    ·by_cases c3:s="move"
     ·subst c3
      rw [nG] at h
      match ds,h with
      | [a, o, c], h =>
        have h:(bc 0 ((p:Int)-1) a&&(bc 0 ((p:Int)-1) o&&bc 1 3 c))=true:=h
        rw [Bool.and_eq_true,Bool.and_eq_true] at h
        obtain ⟨a,rfl,ha⟩:=kY h.1
        obtain ⟨o,rfl,ho⟩:=kY h.2.1
        obtain ⟨c,rfl,hc⟩:=oF h.2.2
        exact ⟨.move a o c,rfl,ha,ho,hc⟩
     ·by_cases c4:s="put"
      ·subst c4
       rw [nF] at h
       match ds,h with
       | [a, x, c], h =>
         have h:(bc 0 ((p:Int)-1) a&&(bc 0 ((w:Int)-1) x&&bc 1 3 c))=true:=h
         rw [Bool.and_eq_true,Bool.and_eq_true] at h
         obtain ⟨a,rfl,ha⟩:=kY h.1
         obtain ⟨x,rfl,hx⟩:=kY h.2.1
         obtain ⟨c,rfl,hc⟩:=oF h.2.2
         exact ⟨.put a x c,rfl,ha,hx,hc⟩
      ·rw [uT c1 c2 c3 c4] at h
       cases h
theorem sU {w p:Nat}:∀{ds:List D},(∀d∈ds,fg w p d=true)->∃es:List bq,ds=es.map bq.d/\∀e∈es,cT w p e
 |[],_=>⟨[],rfl,fun _ h=>nomatch h⟩
 | d :: ds, h => by
   obtain ⟨r,rfl,hr⟩:=sU (ds:=ds) fun x hx=>h x (List.mem_cons_of_mem _ hx)
   obtain ⟨e,rfl,he⟩:=ET (h d List.mem_cons_self)
   refine ⟨e::r,rfl,fun x hx=>?_⟩
   rcases List.mem_cons.mp hx with rfl|hx
   ·exact he
   ·exact hr x hx
theorem Eg {d:D}(h:fc d=true):∃m:bu,d=m.d/\cK m:=by
 match d,h with
 | .tup [a, b, c], h =>
   have h:(bc 2 4 a&&(bc 1 2 b&&(fW c&&(qv c).all (fg (eB a) (eB b)))))=true:=h
   rw [Bool.and_eq_true,Bool.and_eq_true,Bool.and_eq_true] at h
   obtain ⟨h1,h2,h3,h4⟩:=h
   obtain ⟨w,rfl,w2,w4⟩:=nW h1 (by decide)
   obtain ⟨p,rfl,p1,p2⟩:=nW h2 (by decide)
   cases c with
   | tup ds =>
     have h3:(decide (1<=ds.length)&&decide (ds.length<=6))=true:=h3
     rw [Bool.and_eq_true,decide_eq_true_eq,decide_eq_true_eq] at h3
     have h4:ds.all (fg (eB (nD w)) (eB (nD p)))=true:=h4
     rw [List.all_eq_true] at h4
     obtain ⟨es,rfl,he⟩:=sU h4
     rw [List.length_map] at h3
     refine ⟨⟨w,p,es⟩,rfl,⟨?_,?_,?_,?_,h3.1,h3.2,he⟩⟩
     ·show 2<=w;omega
     ·show w<=4;omega
     ·show 1<=p;omega
     ·show p<=2;omega
   |_=>cases h3
end LD
namespace LD
open PySem
structure J8 (P:Nat->Option Df):Prop where
 m:HasM P
 p:HasP P
 t:HasT P
 w:pO P
 s:oN P
 a:Cr P
 h35:P 35=some ⟨3,6,iZ⟩
 h75:P 75=some ⟨1,3,ee⟩
 h90:P 90=some ⟨2,4,de⟩
 h94:P 94=some ⟨3,5,cQ⟩
 h95:P 95=some ⟨3,4,cY⟩
 h96:P 96=some ⟨3,5,fO⟩
 h97:P 97=some ⟨1,12,l9⟩
theorem bW {y:D}(h:y∈[D.int (-1),.int (-2),.int (10^20),.bl true,.bl false,.non,.str "0",.lst [.int 0],.tup [.int 0],.lst [],.str "",.str "turn",.str "join",.str "move",.str "put",.str "Turn",.tup []]):y∈items:=List.mem_append_right _ h
theorem zF {x:D}(h:x∈eX):x∈items:=by
 simp only [eX,List.mem_cons,List.not_mem_nil,or_false] at h
 rcases h with rfl|rfl|rfl|rfl|rfl|rfl|rfl|rfl|rfl|rfl|rfl|rfl|rfl|rfl|rfl|rfl|rfl|rfl|rfl|rfl
 ·exact bW (by simp)
 ·exact bW (by simp)
 ·exact bW (by simp)
 ·exact bW (by simp)
 ·exact bW (by simp)
 ·exact bW (by simp)
 ·exact bW (by simp)
 ·exact bW (by simp)
 ·exact bW (by simp)
 ·exact bW (by simp)
 ·exact bW (by simp)
 ·exact bW (by simp)
 ·exact bW (by simp)
 ·exact eA (i:=0) (by decide)
 ·exact eA (i:=1) (by decide)
 ·exact eA (i:=4) (by decide)
 ·exact bW (by simp)
 ·exact bW (by simp)
 ·exact bW (by simp)
 ·exact eA (i:=7) (by decide)
theorem u5 {v:Nat}(h:v<9):D.int ((v:Int)-2)∈items:=by
 match v,h with
 |0,_=>exact bW (by simp)
 |1,_=>exact bW (by simp)
 |v+2,h=>rw [show (((v+2:Nat):Int)-2)=((v:Nat):Int) by omega];exact eA (by omega)
theorem wC {a i:GE}{Z:Env}{M:Mem}{xs:List D}{v:Nat}(ea:a Z M=.ok (.lst xs) M)(ei:i Z M=.ok (nD v) M)(h:v<xs.length):a8 a i Z M=.ok xs[v] M:=by
 unfold a8
 rw [ea]
 show (i Z M).bind _=_
 rw [ei]
 show cZ M (fq (.lst xs) (nD v) M)=_
 rw [oq h];rfl
section
variable {P:Nat->Option Df}{M:Mem}
theorem A5 (hp_:HasP P)(ht_:HasT P)(hw_:pO P)(n:Nat){p B:Nat}(hp:aQ M p B)(hB:B<=700000):aj (av P (n+6) 72 [.cell p,.int 0,.int 0] M) fun d M'=>d∈items/\aQ M' p (B+3)/\bI p M M':=by
 refine aK ht_.bent rfl ?_
 show aj (g7 (av P (n+5)) [some (.cell p),some (.int 0),some (.int 0),none,none,none,none,none,none] M) _
 unfold g7
 refine gn hp_ (n+3) (many:=8) rfl rfl hp (by omega) (by decide) (by decide) fun kind M1 hkd q1 k1=>?_
 refine gn hp_ (n+3) (many:=20) rfl rfl q1 (by omega) (by decide) (by decide) fun pick M2 hpk q2 k2=>?_
 refine dY (k:=fun d M'=>∃v:Nat,d=.int ((v:Int)-2)/\v<9/\aQ M' p (B+3)/\bI p M2 M') ?_ ?_
 ·rw [eE]
  refine bo (jN hp_ (n+3) (many:=9) rfl rfl q2 (by omega) (by decide) (by decide)) ?_
  rintro _ M' ⟨v,rfl,hv,q,kk⟩
  simp only [dM]
  exact ng.mpr ⟨v,rfl,hv,q,kk⟩
 rintro _ M3 ⟨v,rfl,hv,q3,k3⟩
 refine aI rfl ?_
 show aj (ai _ (ai _ (kd (av P (n+5)))) [some (.cell p),some (.int 0),some (.int 0),some (nD kind),some (nD pick),some (.int ((v:Int)-2)),none,none,none] M3) _
 refine sL ?_
 unfold kd
 refine aI rfl (iO (fK (j7 rfl (lq hw_ (n+4) (k:=0) (L:=0) (d:=.int 0) trivial))) ?_)
 have hl:pick<eX.length:=hpk
 refine cV (wC (xs:=[.int 1,.int (-1),.int 0,.int ((v:Int)-2),.int ((v:Int)-2),.bl false,.int 3,eX[pick]]) (qs (aZ rfl (aZ rfl (aZ rfl (aZ (bA rfl) (aZ (bA rfl) (aZ rfl (aZ rfl (aZ (wC (bA rfl) (bA rfl) hl) rfl)))))))) (tqq rfl)) (bA rfl) hkd) ⟨?_,q3,(k1.trans k2).trans k3⟩
 have mem:∀x∈[D.int 1,.int (-1),.int 0,.int ((v:Int)-2),.int ((v:Int)-2),.bl false,.int 3,eX[pick]],x∈items:=fun x hx=>by
  simp only [List.mem_cons,List.not_mem_nil,or_false] at hx
  rcases hx with rfl|rfl|rfl|rfl|rfl|rfl|rfl|rfl
  ·exact eA (i:=1) (by decide)
  ·exact bW (by simp)
  ·exact eA (i:=0) (by decide)
  ·exact u5 hv
  ·exact u5 hv
  ·exact bW (by simp)
  ·exact eA (i:=3) (by decide)
  ·exact zF (List.getElem_mem hl)
 exact mem _ (List.getElem_mem _)
theorem Thing.item {x:D}(h:x∈items):Thing x:=⟨(jr h).1.mono (by decide) (by decide),(jr h).2.mono (by decide)⟩
variable (h:J8 P)
include h
theorem su (n:Nat){p B:Nat}{m:bu}{rs:List D}(hr:Itm 40 rs)(hp:aQ M p B)(hB:B<=600000):aj (av P (n+7) 96 [.cell p,m.d,.lst rs] M) fun d M'=>Thing d/\aQ M' p (B+10):=by
 have hl:=hr.len
 refine aK h.h96 rfl ?_
 show aj (fO (av P (n+6)) [some (.cell p),some m.d,some (.lst rs),none,none] M) _
 unfold fO
 refine gn h.p (n+4) (many:=5) rfl rfl hp (by omega) (by decide) (by decide) fun way M1 hwy q1 _=>?_
 refine gn h.p (n+4) (many:=rs.length+1) rfl (Ei rfl) q1 (by omega) (by omega) (by omega) fun at_ M2 hat q2 _=>?_
 show aj (ai _ _ [some (.cell p),some m.d,some (.lst rs),some (nD way),some (nD at_)] M2) _
 refine dZ (j6 (c:=0) rfl) (fun _=>cV (bA rfl) ⟨hr.lst (by decide),q2.mono (by omega)⟩) fun c0=>?_
 refine dZ (j6 (c:=1) rfl) (fun _=>?_) fun c1=>?_
 ·have i4:Itm 81 (rs++zeros 41):=hr.app (.zeros 41)
  have l4:=i4.len
  exact cV (Iq (v:=41) (E6 (ys:=zeros 41) (bA rfl) rfl (by omega)) (by omega)) ⟨(i4.take 41).lst (by decide),q2.mono (by omega)⟩
 refine dZ (j6 (c:=2) rfl) (fun _=>?_) fun c2=>?_
 ·simp only [aR,cB]
  have el:bB false (af gN (af (bG .tuple (af (ag 2) au)) (af (gS "0") (af (gI 7) (af (cU au) au))))) [some (.cell p),some m.d,some (.lst rs),some (nD way),some (nD at_)] M2=.ok (.lst [.non,.tup rs,.str "0",.int 7,.tup []]) M2:=qs (aZ rfl (aZ rfl (aZ rfl (aZ rfl (aZ rfl rfl))))) (tqq rfl)
  refine bo (B0 h.p (n+4) (many:=5) rfl rfl q2 (by omega) (by decide) (by decide) el rfl) ?_
  rintro d M3 ⟨hd,q3,_⟩
  refine ⟨?_,q3.mono (by omega)⟩
  simp only [List.mem_cons,List.not_mem_nil,or_false] at hd
  rcases hd with rfl|rfl|rfl|rfl|rfl
  ·exact .item (bW (by simp))
  ·exact hr.tup (by decide)
  ·exact .item (bW (by simp))
  ·exact .item (eA (i:=7) (by decide))
  ·exact .item (bW (by simp))
 ·have hw:way=3\/way=4:=by
   have c0:¬ ((way:Int)=0):=by simpa using c0
   have c1:¬ ((way:Int)=1):=by simpa using c1
   have c2:¬ ((way:Int)=2):=by simpa using c2
   omega
  obtain ⟨z,ez,hz⟩:∃z,(∀M',aH false .mul (bB false (af (gI 0) au)) (aH false .mul (gI 40) (aH false .sub (ag 3) (gI 3))) [some (.cell p),some m.d,some (.lst rs),some (nD way),some (nD at_)] M'=.ok (.lst (zeros z)) M')/\z<=40:=by
   rcases hw with rfl|rfl
   ·exact ⟨0,fun _=>rfl,by decide⟩
   ·exact ⟨40,fun _=>rfl,by decide⟩
  simp only [aR,cB]
  rw [eE,eE,eE,IQ (xs:=rs) (v:=at_) rfl rfl (by omega),gK,mL,bw]
  rw [dU (aZ (bA rfl) (aZ rfl (aZ rfl rfl)))]
  refine bo (A5 h.p h.t h.w n q2 (by omega)) ?_
  rintro x M3 ⟨hx,q3,_⟩
  simp only [bN]
  refine cq.mpr ⟨aM (n:=1) (by decide),qL.mpr (cq.mpr ⟨aM (by simp;omega),?_⟩)⟩
  rw [Er (xs:=rs) (v:=at_) rfl rfl (by omega),gK]
  refine qL.mpr (cq.mpr ⟨aM (by simp;omega),?_⟩)
  rw [ez,gK]
  have i5:Itm 81 (rs.take at_++[x]++rs.drop at_++zeros z):=((hr.put hx).app (Itm.mono (.zeros z) hz))
  have l5:=i5.len
  exact qL.mpr (cq.mpr ⟨aM (by omega),i5.lst (by decide),q3.mono (by omega)⟩)
omit h in
theorem IZ (h94:P 94=some ⟨3,5,cQ⟩)(n:Nat){d x y v:D}{M':Mem}(e:av P n 48 [d,x,y] M=.ok v M'):av P (n+1) 94 [d,x,y] M=.ok (.lst [.str "told"]) M':=by
 refine aO (aK h94 rfl ?_)
 show aj (cQ (av P n) [some d,some x,some y,none,none] M) _
 unfold cQ
 refine cv (lj rfl) ?_
 show aj (ai _ _ [some d,some x,some y,some .non,none] M) _
 simp only [aR,ze,jJ,fj,bw,bN,bt]
 refine ⟨_,rfl,_,rfl,_,rfl,?_⟩
 rw [e]
 exact ⟨rfl,rfl⟩
omit h in
theorem uu (h94:P 94=some ⟨3,5,cQ⟩)(h75:P 75=some ⟨1,3,ee⟩)(n:Nat){d x y v:D}{M':Mem}{i:Int}(hv:v∈lO i)(e:av P (n+1) 48 [d,x,y] M=.err v M'):av P (n+2) 94 [d,x,y] M=.ok (nz v) M':=by
 have er:=w5 h75 n (M:=M') hv
 obtain ⟨c,p,rfl⟩:=B4 hv
 refine aO (aK h94 rfl ?_)
 show aj (cQ (av P (n+1)) [some d,some x,some y,none,none] M) _
 unfold cQ
 refine cv (lj rfl) ?_
 show aj (ai _ _ [some d,some x,some y,some .non,none] M) _
 simp only [aR,ze,jJ,fj,bw,bN,bt]
 refine ⟨_,rfl,_,rfl,_,rfl,?_⟩
 rw [e]
 show aj (ai (aW (gV (aL (a7 .isN (ag 3) gN)) (bB false (af (gS "told") au)) (az 75 (av P (n+1)) (af (ag 3) au)))) aw [some d,some x,some y,some (.exc c p),none] M') _
 refine cV ?_ ⟨rfl,rfl⟩
 show az 75 (av P (n+1)) (af (ag 3) au) [some d,some x,some y,some (.exc c p),none] M'=_
 exact j7 rfl er
omit h in
theorem rY (h27:P 27=some ⟨2,2,dE⟩)(n:Nat){d r x:D}(e:av P n 18 [d,r] M=.err x M):av P (n+1) 27 [d,r] M=.err x M:=by
 refine eQ (fE h27 rfl ?_)
 show aj (dE (av P n) [some d,some r] M) _
 unfold dE
 simp only [aR,jJ,fj,bw,bN,bt]
 refine ⟨_,rfl,_,rfl,?_⟩
 rw [e]
 exact ⟨rfl,rfl⟩
omit h in
theorem sJ (h48:P 48=some ⟨3,8,eZ⟩)(n:Nat){d x y v:D}(e:av P n 27 [d,x] M=.err v M):av P (n+1) 48 [d,x,y] M=.err v M:=by
 refine eQ (fE h48 rfl ?_)
 show aj (eZ (av P n) [some d,some x,some y,none,none,none,none,none] M) _
 unfold eZ
 simp only [aR,qW,fj,bw,bN,bt]
 refine ⟨_,rfl,_,rfl,?_⟩
 rw [e]
 exact ⟨rfl,rfl⟩
omit h in
theorem zt (h48:P 48=some ⟨3,8,eZ⟩)(n:Nat){d x y v u:D}{M1:Mem}(e:av P n 27 [d,x] M=.ok u M1)(e2:av P n 27 [d,y] M1=.err v M1):av P (n+1) 48 [d,x,y] M=.err v M1:=by
 refine eQ (fE h48 rfl ?_)
 show aj (eZ (av P n) [some d,some x,some y,none,none,none,none,none] M) _
 unfold eZ
 simp only [aR,qW,fj,bw,bN,bt]
 refine ⟨_,rfl,_,rfl,?_⟩
 rw [e]
 show aj (ai _ _ [some d,some x,some y,some u,none,none,none,none] M1) _
 simp only [aR,qW,fj,bw,bN,bt]
 refine ⟨_,rfl,_,rfl,?_⟩
 rw [e2]
 exact ⟨rfl,rfl⟩
omit h in
theorem CZ (h95:P 95=some ⟨3,4,cY⟩)(n:Nat){d x y r:D}(e:av P n 90 [d,x] M=.ok r M)(hr:jA r=false):av P (n+1) 95 [d,x,y] M=.ok r M:=by
 refine aE (aK h95 rfl ?_)
 show aj (cY (av P n) [some d,some x,some y,none] M) _
 unfold cY
 refine cv (lj (hU rfl rfl e)) ?_
 have t:(aL (a7 .isN (ag 3) gN):GT) [some d,some x,some y,some r] M=.ok false M:=by rw [<- hr];rfl
 exact aI t (cV (js t (fun z=>nomatch z) (fun _=>bA rfl)) ⟨rfl,rfl⟩)
omit h in
theorem CY (h95:P 95=some ⟨3,4,cY⟩)(n:Nat){d x y r:D}(e:av P n 90 [d,x] M=.ok .non M)(e2:av P n 90 [d,y] M=.ok r M):av P (n+1) 95 [d,x,y] M=.ok (if jA r=true then .lst [.str "told"] else r) M:=by
 refine aE (aK h95 rfl ?_)
 show aj (cY (av P n) [some d,some x,some y,none] M) _
 unfold cY
 refine cv (lj (hU rfl rfl e)) (iO rfl (cv (lj (hU rfl rfl e2)) ?_))
 show aj (ai (aW (gV (aL (a7 .isN (ag 3) gN)) (bB false (af (gS "told") au)) (ag 3))) aw [some d,some x,some y,some r] M) _
 have t:(aL (a7 .isN (ag 3) gN):GT) [some d,some x,some y,some r] M=.ok (jA r) M:=rfl
 cases hr:jA r with
 |true=>rw [hr] at t;exact cV (v:=.lst [.str "told"]) (js t (fun _=>rfl) (fun z=>nomatch z)) ⟨rfl,rfl⟩
 |false=>rw [hr] at t;exact cV (v:=r) (js t (fun z=>nomatch z) (fun _=>bA rfl)) ⟨rfl,rfl⟩
theorem EE (n:Nat){k L:Nat}{d x:D}(hd:Th k L d)(hk:k<=60)(hL:L+1<=100)(hb:fc d=false):av P (n+6) 90 [d,x] M=.ok (.lst [.str "machine"]) M:=by
 refine aE (aK h.h90 rfl ?_)
 show aj (de (av P (n+5)) [some d,some x,none,none] M) _
 unfold de
 have em:=sA h.w n (M:=M) hd hk hL
 rw [hb] at em
 exact bM (iL (b:=false) (fK (j7 rfl em))) rfl ⟨rfl,rfl⟩
omit h in
theorem uH (hs:oN P)(n:Nat){z:Str}(hz:aG 64 (.str z)=true):av P (n+2) 40 [.lst [.str z],.lst [.str z]] M=.ok (.bl true) M:=
 pZ hs (n+1) (aM (n:=1) (by decide)) fun d hd=>by rw [List.mem_singleton.mp hd];exact sv hs n hz
omit h in
theorem sC (hs:oN P)(n:Nat){m:bu}{x v:D}(hv:eI m x v)(hn:v≠.non):av P (n+2) 40 [nz v,nz v] M=.ok (.bl true) M:=by
 have row:∀i:Int,av P (n+2) 40 [.lst [.str "row",.int i],.lst [.str "row",.int i]] M=.ok (.bl true) M:=fun i=>by
  refine pZ hs (n+1) (aM (n:=2) (by decide)) fun d hd=>?_
  rcases List.mem_cons.mp hd with rfl|hd
  ·exact sv hs n (by decide +kernel)
  ·rw [List.mem_singleton.mp hd];exact yY hs n i
 cases hv with
 |ok r hr=>exact absurd rfl hn
 |long ds hg hl=>exact uH hs n (by decide +kernel)
 |bad ds i y hy hb hg=>exact row i
 |not x hi=>exact row 0
theorem D5 {k L:Nat}{d x y:D}(hd:Th k L d)(hk:k<=60)(hL:L+1<=100)(hx:Thing x)(hy:Thing y):∃r M',av P 39 95 [d,x,y] M=.ok r M/\av P 39 94 [d,x,y] M=.ok r M'/\Sub M M'/\av P 39 40 [r,r] M'=.ok (.bl true) M':=by
 cases hb:fc d with
 | false =>
   refine ⟨.lst [.str "machine"],M,CZ h.h95 38 (EE h 32 hd hk hL hb) rfl,?_,.refl,uH h.s 37 (by decide +kernel)⟩
   exact uu h.h94 h.h75 37 (i:=0) (v:=.exc 3 none) (by simp [lO]) (sJ h.a.parted 37 (rY h.a.h27 36 (Bb h.m 27 hd (by omega) hb)))
 | true =>
   obtain ⟨m,rfl,hm⟩:=Eg hb
   have hv:=uL (m:=m) hx.th
   generalize Bd m x=v at hv
   have d1:=y8 h.w h.h90 32 (M:=M) hm hx.th (by decide) hv
   by_cases hn:v=.non
   ·subst hn
    have hw:=uL (m:=m) hy.th
    generalize Bd m y=u at hw
    have d2:=y8 h.w h.h90 32 (M:=M) hm hy.th (by decide) hw
    cases hv with
    | ok r hr =>
      by_cases hu:u=.non
      ·subst hu
       cases hw with
       | ok r2 hr2 =>
         obtain ⟨v,M',e,_,S⟩:=oj.mp (y4 h.m h.a 26 (M:=M) hm hr hr2)
         exact ⟨.lst [.str "told"],M',CY h.h95 38 d1 d2,IZ h.h94 38 e,S,uH h.s 37 (by decide +kernel)⟩
      ·have nn:=wd hw hu
       obtain ⟨i,hi⟩:=uG hw hu
       have b1:=Fj h.m h.a.h15 h.a.h27 h.a.h46 26 (M:=M) hm hr
       refine ⟨nz u,_,?_,uu h.h94 h.h75 37 hi (zt h.a.parted 37 b1 (rY h.a.h27 36 (va h.m 27 hm hy.th (by decide) hw hu))),Sub.app,sC h.s 37 hw hu⟩
       have q:=CY h.h95 38 d1 d2
       rw [nn] at q
       exact q
   ·obtain ⟨i,hi⟩:=uG hv hn
    exact ⟨nz v,M,CZ h.h95 38 d1 (wd hv hn),uu h.h94 h.h75 37 hi (sJ h.a.parted 37 (rY h.a.h27 36 (va h.m 27 hm hx.th (by decide) hv hn))),.refl,sC h.s 37 hv hn⟩
def CH (c:Call):GS:=(ai (aU (.one 10) (j4 (af (bB false (af (ag 7) (af (ag 8) au))) au))) (ai (aU (.one 11) (az 95 c (af (ag 9) (af (ag 7) (af (ag 8) au))))) (ai (bf (eK (bZ (aL (az 40 c (af (az 94 c (af (ag 9) (af (ag 7) (af (ag 8) au)))) (af (ag 11) au))))) (aL (a7 .ne (j4 (af (bB false (af (ag 7) (af (ag 8) au))) au)) (ag 10)))) rF aw) aw)))
theorem Dj {d x y:D}{x0 x1 x2 x3 x4 x5 x6 x10 x11:Option D}(hd:Th 7 7 d)(hx:Thing x)(hy:Thing y):aj (CH (av P 39) [x0,x1,x2,x3,x4,x5,x6,some x,some y,some d,x10,x11] M) fun fl M'=>(∃z10 z11,fl=.next [x0,x1,x2,x3,x4,x5,x6,some x,some y,some d,z10,z11])/\Sub M M':=by
 obtain ⟨r,M',e1,e2,S,e3⟩:=D5 h (M:=M) hd (by decide) (by decide) hx hy
 have ht:Th 4 200 (.lst [x,y]):=.lst_of (show 2<=200 by decide) fun z hz=>by
  rcases List.mem_cons.mp hz with rfl|hz
  ·exact hx.th
  ·rw [List.mem_singleton.mp hz];exact hy.th
 have hg:Good 20002 (.lst [x,y]):=(Good.lst (b:=10000) (ds:=[x,y]) fun z hz=>by
  rcases List.mem_cons.mp hz with rfl|hz
  ·exact hx.good
  ·rw [List.mem_singleton.mp hz];exact hy.good).mono (tqq rfl)
 have l2:∀{Z:Env}{M:Mem},Z[7]?.getD none=some x->Z[8]?.getD none=some y->j4 (af (bB false (af (ag 7) (af (ag 8) au))) au) Z M=.ok (pj (.lst [x,y])) M:=fun {Z M} a b=>DF (aZ (qs (aZ (bA a) (aZ (bA b) rfl)) (tqq rfl)) rfl) ht (by decide) hg (by decide)
 unfold CH
 refine cv (lj (l2 rfl rfl)) (cv (lj (C5 rfl rfl rfl e1)) ?_)
 show aj (ai _ _ [x0,x1,x2,x3,x4,x5,x6,some x,some y,some d,some (pj (.lst [x,y])),some r] M) _
 refine Eo (R:=fun M2=>M2=M') ?_ ?_
 ·simp only [AS,wZ,jw]
  rw [fu,bw,C5 rfl rfl rfl e2,gK]
  show aj (av P 39 40 [r,r] M') _
  rw [e3,gK]
  refine ⟨true,rfl,?_⟩
  show aj (a7 .ne (j4 (af (bB false (af (ag 7) (af (ag 8) au))) au)) (ag 10) [x0,x1,x2,x3,x4,x5,x6,some x,some y,some d,some (pj (.lst [x,y])),some r] M') _
  rw [iU,l2 rfl rfl,gK]
  simp only [bt]
  exact ⟨_,rfl,_,Hc,_,rfl,rfl,trivial⟩
 ·rintro _ rfl
  exact ⟨⟨_,_,rfl⟩,S⟩
theorem Jx (ns:List Int)(hn:ns.length<=63):∃M,av P 40 97 [.frz (ns.map D.int)] []=.ok (.bl true) M:=by
 have goal:aj (av P 40 97 [.frz (ns.map D.int)] []) fun d _=>d=.bl true:=by
  refine aK h.h97 rfl ?_
  show aj (l9 (av P 39) [some (.frz (ns.map D.int)),none,none,none,none,none,none,none,none,none,none,none] []) _
  unfold l9
  refine dY (k:=fun d M'=>d=.cell 1/\aQ M' 1 0) ?_ ?_
  ·rw [dU (aZ (bA rfl) rfl)]
   exact Dp h.p 38 hn
  rintro _ M1 ⟨rfl,q1⟩
  simp only [aR,iG,kj,dM]
  refine ⟨5,rfl,by decide,?_⟩
  refine ft (ds:=(List.range 5).map fun (k:Nat)=>D.int (k:Int)) (fun i Z M'=>aQ M' 1 (i*1000)/\∃x2 x3 x4 x5 x6 x7 x8 x9 x10 x11,Z=[some (.frz (ns.map D.int)),some (.cell 1),x2,x3,x4,x5,x6,x7,x8,x9,x10,x11]) (fun _ _ _ _=>rfl) ⟨q1,none,none,none,none,none,none,none,none,none,none,rfl⟩ ?_ ?_
  ·rintro i dd Z M' hd ⟨q2,x2,x3,x4,x5,x6,x7,x8,x9,x10,x11,rfl⟩
   have hi:i<5:=by
    have:=(List.getElem?_eq_some_iff.mp hd).1
    simpa using this
   refine ⟨_,rfl,?_⟩
   refine dY (k:=fun d M''=>∃m:bu,d=m.d/\cK m/\aQ M'' 1 (i*1000+300)) ?_ ?_
   ·simp only [fu,bw,bN,dM]
    show aj (av P 39 30 [.cell 1] M') _
    refine bo (Ds h.p 38 q2) ?_
    rintro _ M3 ⟨rfl,q3,_⟩
    show aj (av P 39 34 [.cell 1,nD 3,nD 2,nD 5] M3) _
    exact bo (w8 h.p 34 q3 (by omega) (by decide) (by decide) (by decide) (by decide) (by decide) (by decide)) fun d M4 ⟨m,e,hm,_,_,_,q4,_⟩=>⟨m,e,hm,q4⟩
   rintro _ M3 ⟨m,rfl,hm,q3⟩
   refine dY (k:=fun d M''=>Th 7 7 d/\aQ M'' 1 (i*1000+340)) ?_ ?_
   ·rw [dU (aZ (bA rfl) (aZ (bA rfl) (aZ rfl rfl)))]
    exact bo (v8 h.p h.t h.w 5 28 (by decide) (j9 hm) (by decide) (by decide) (by decide) q3 (by omega)) fun d M' ⟨a,b,_⟩=>⟨a,b.mono (by omega)⟩
   rintro bad M4 ⟨tb,q4⟩
   refine dY (k:=fun d M''=>∃r:List Nat,d=.lst (r.map nD)/\Itm 40 (r.map nD)/\aQ M'' 1 (i*1000+390)) ?_ ?_
   ·rw [dU (aZ (bA rfl) (aZ (bA rfl) (aZ rfl rfl)))]
    exact bo (Dm h.p h.h35 36 hm q4 (by omega) (mo:=6) (by decide)) fun d M' ⟨r,e,hr,hl,q,_⟩=>⟨r,e,Dz hm hr.2 hr.1,q⟩
   rintro _ M5 ⟨r,rfl,hr,q5⟩
   have hrl:=hr.len
   have hrev:Itm 40 (r.map nD).reverse:=⟨by rw [List.length_reverse];exact hrl,fun x hx=>hr.all x (List.mem_reverse.mp hx)⟩
   show aj (ai _ _ [some (.frz (ns.map D.int)),some (.cell 1),some dd,some m.d,some bad,some (.lst (r.map nD)),x6,x7,x8,x9,x10,x11] M5) _
   simp only [aR,iG,kj,dM]
   refine ⟨6,rfl,by decide,?_⟩
   refine ft (ds:=(List.range 6).map fun (k:Nat)=>D.int (k:Int)) (fun k Z M'=>aQ M' 1 (i*1000+390+k*20)/\∃x6 x7 x8 x9 x10 x11,Z=[some (.frz (ns.map D.int)),some (.cell 1),some dd,some m.d,some bad,some (.lst (r.map nD)),x6,x7,x8,x9,x10,x11]) (fun _ _ _ _=>rfl) ⟨q5,_,_,_,_,_,_,rfl⟩ ?_ ?_
   ·rintro k dk Z M6 hk ⟨q6,x6,x7,x8,x9,x10,x11,rfl⟩
    have hk6:k<6:=by
     have:=(List.getElem?_eq_some_iff.mp hk).1
     simpa using this
    refine ⟨_,rfl,?_⟩
    refine dY (k:=fun d M''=>Thing d/\aQ M'' 1 (i*1000+390+k*20+10)) ?_ ?_
    ·rw [dU (aZ (bA rfl) (aZ (bA rfl) (aZ (bA rfl) rfl)))]
     exact su h 32 hr q6 (by omega)
    rintro x M7 ⟨hx,q7⟩
    have er:mJ false (ag 5) [some (.frz (ns.map D.int)),some (.cell 1),some dd,some m.d,some bad,some (.lst (r.map nD)),some dk,some x,x8,x9,x10,x11] M7=.ok (.lst (r.map nD).reverse) M7:=by
     refine aE ?_
     simp only [CU,bt]
     exact ⟨_,rfl,DD.mpr (cq.mpr ⟨aM (by rw [List.length_reverse];omega),rfl,rfl⟩)⟩
    refine dY (k:=fun d M''=>Thing d/\aQ M'' 1 (i*1000+390+k*20+20)) ?_ ?_
    ·show aj (az 96 (av P 39) (af (ag 1) (af (ag 3) (af (mJ false (ag 5)) au))) [some (.frz (ns.map D.int)),some (.cell 1),some dd,some m.d,some bad,some (.lst (r.map nD)),some dk,some x,x8,x9,x10,x11] M7) _
     rw [dU (aZ (bA rfl) (aZ (bA rfl) (aZ er rfl)))]
     exact bo (su h 32 hrev q7 (by omega)) fun d M' ⟨a,b⟩=>⟨a,b.mono (by omega)⟩
    rintro y M8 ⟨hy,q8⟩
    show aj (ai _ _ [some (.frz (ns.map D.int)),some (.cell 1),some dd,some m.d,some bad,some (.lst (r.map nD)),some dk,some x,some y,x9,x10,x11] M8) _
    simp only [aR,iG,IM,mL,bw,bN,bt]
    refine ⟨_,rfl,_,rfl,cq.mpr ⟨aM (n:=2) (by decide),rfl,?_⟩⟩
    refine ft (ds:=[m.d,bad]) (fun _ Z M'=>aQ M' 1 (i*1000+390+k*20+20)/\∃x9 x10 x11,Z=[some (.frz (ns.map D.int)),some (.cell 1),some dd,some m.d,some bad,some (.lst (r.map nD)),some dk,some x,some y,x9,x10,x11]) (fun _ _ _ _=>rfl) ⟨q8,_,_,_,rfl⟩ ?_ ?_
    ·rintro j d Z M9 hj ⟨q9,x9,x10,x11,rfl⟩
     have hd:Th 7 7 d:=by
      rcases List.mem_cons.mp (List.mem_of_getElem? hj) with rfl|z
      ·exact (j9 hm).mono (by decide) (by decide)
      ·rw [List.mem_singleton.mp z];exact tb
     refine ⟨_,rfl,bo (Dj h (M:=M9) (x0:=some (.frz (ns.map D.int))) (x1:=some (.cell 1)) (x2:=some dd) (x3:=some m.d) (x4:=some bad) (x5:=some (.lst (r.map nD))) (x6:=some dk) (x10:=x10) (x11:=x11) hd hx hy) ?_⟩
     rintro fl M10 ⟨⟨z10,z11,rfl⟩,S⟩
     exact ⟨_,rfl,S.pen q9,_,_,_,rfl⟩
    ·rintro Z M9 ⟨q9,x9,x10,x11,rfl⟩
     exact ⟨_,rfl,q9.mono (by omega),_,_,_,_,_,_,rfl⟩
   ·rintro Z M6 ⟨q6,x6,x7,x8,x9,x10,x11,rfl⟩
    simp only [List.length_map,List.length_range] at q6
    exact ⟨_,rfl,q6.mono (by omega),_,_,_,_,_,_,_,_,_,_,rfl⟩
  ·rintro Z M' ⟨q2,x2,x3,x4,x5,x6,x7,x8,x9,x10,x11,rfl⟩
   exact (rfl:D.bl true=.bl true)
 obtain ⟨d,M,e,rfl⟩:=oj.mp goal
 exact ⟨M,e⟩
end
end LD
namespace K11
open PySem PySem.Spec PyProof.Rows L2 LD
def top (i:Nat):Stmt:=PySem.Challenge.pw_leastdeeds_k11_what_is_refused_of_two_ro.main.body.getD i (.Pass ⟨0,0,0,0⟩)
abbrev jR:Stmt:=top 17
abbrev mr:Stmt:=top 25
abbrev lK:Stmt:=top 26
abbrev mz:Stmt:=top 27
abbrev jf:Stmt:=top 28
abbrev jx:Stmt:=top 29
abbrev eL:Stmt:=top 30
abbrev mv:Stmt:=top 31
abbrev mx:Stmt:=top 32
abbrev mw:Stmt:=top 33
abbrev nr:Stmt:=top 34
abbrev my:Stmt:=top 36
abbrev hG:Stmt:=top 37
abbrev iy:Stmt:=top 38
abbrev hJ:Stmt:=top 39
abbrev gU:Stmt:=top 40
abbrev ix:Stmt:=top 41
abbrev lJ:Stmt:=top 42
abbrev nh:Stmt:=top 44
abbrev nq:Stmt:=top 45
abbrev pw:Stmt:=top 46
abbrev ni:Stmt:=top 47
abbrev qT:Stmt:=top 49
abbrev iz:Stmt:=top 50
abbrev jX:Stmt:=top 51
abbrev kn:Stmt:=top 52
abbrev nj:Stmt:=top 54
abbrev jg:Stmt:=top 56
abbrev ks:Stmt:=top 57
abbrev ky:Stmt:=top 58
abbrev kr:Stmt:=top 59
abbrev fC:Stmt:=top 60
abbrev ig:Stmt:=top 61
abbrev ji:Stmt:=top 62
abbrev ie:Stmt:=top 63
abbrev iA:Stmt:=top 64
abbrev fS:Stmt:=top 65
abbrev iE:Stmt:=top 66
abbrev iD:Stmt:=top 67
abbrev jy:Stmt:=top 68
abbrev jS:Stmt:=top 69
abbrev fY:Stmt:=top 70
abbrev fZ:Stmt:=top 71
abbrev eO:Stmt:=top 72
abbrev iB:Stmt:=top 73
abbrev ku:Stmt:=top 74
abbrev iC:Stmt:=top 75
abbrev ko:Stmt:=top 76
abbrev lL:Stmt:=top 77
abbrev jh:Stmt:=top 78
abbrev ux:Stmt:=top 79
abbrev AW:Stmt:=inC (top 2)
abbrev Ha:List Str:=["thing","low","high"]
theorem Ks:Ha.Nodup:=by decide +kernel
abbrev sM:List Str:=["words","thing"]
theorem Ho:sM.Nodup:=by decide +kernel
abbrev Ko:List Str:=["places","thing"]
theorem nd2:Ko.Nodup:=by decide +kernel
abbrev u6:List Str:=["thing"]
theorem CN:u6.Nodup:=by decide +kernel
abbrev Kn:List Str:=["long","thing"]
theorem nd4:Kn.Nodup:=by decide +kernel
abbrev ns5:List Str:=["word","words","thing"]
theorem nd5:ns5.Nodup:=by decide +kernel
abbrev ns6:List Str:=["table","words","thing"]
theorem nd6:ns6.Nodup:=by decide +kernel
abbrev Km:List Str:=["words","places","parts","at","table","price"]
theorem Kr:Km.Nodup:=by decide +kernel
abbrev Kl:List Str:=["words","places","parts","at","other","table","price"]
theorem Kq:Kl.Nodup:=by decide +kernel
abbrev Kk:List Str:=["words","places","parts","at","other","price"]
theorem Kp:Kk.Nodup:=by decide +kernel
abbrev G9:List Str:=["words","places","parts","at","word","price"]
theorem Hn:G9.Nodup:=by decide +kernel
abbrev G8:List Str:=["words","places","thing","sort","is_sort"]
theorem BK:G8.Nodup:=by decide +kernel
abbrev xE:List Str:=["thing","words","places","deeds"]
theorem Hm:xE.Nodup:=by decide +kernel
abbrev Lm:List Str:=["deed","thing","words","places","deeds"]
theorem LA:Lm.Nodup:=by decide +kernel
abbrev xD:List Str:=["machine","words","places","deeds","starts","place"]
theorem ve:xD.Nodup:=by decide +kernel
abbrev Ll:List Str:=["start","word","machine","words","places","deeds","starts","place"]
theorem Hl:Ll.Nodup:=by decide +kernel
abbrev G7:List Str:=["machine","thing"]
theorem Lz:G7.Nodup:=by decide +kernel
abbrev G6:List Str:=["machine","row","place","thing"]
theorem Hk:G6.Nodup:=by decide +kernel
abbrev rC:List Str:=["machine","row"]
theorem BJ:rC.Nodup:=by decide +kernel
abbrev G5:List Str:=["deed","standing","sort","at","table","price"]
theorem Hj:G5.Nodup:=by decide +kernel
abbrev G4:List Str:=["deed","standing","sort","at","other","table","price"]
theorem Hi:G4.Nodup:=by decide +kernel
abbrev G3:List Str:=["deed","standing","sort","at","other","price"]
theorem Hh:G3.Nodup:=by decide +kernel
abbrev G2:List Str:=["deed","standing","sort","at","word","price"]
theorem Hg:G2.Nodup:=by decide +kernel
abbrev G1:List Str:=["deed","standing","new_word","at"]
theorem BI:G1.Nodup:=by decide +kernel
abbrev G0:List Str:=["machine","row","beginning","standings","number"]
theorem BH:G0.Nodup:=by decide +kernel
abbrev Lk:List Str:=["start","machine","row"]
theorem Ly:Lk.Nodup:=by decide +kernel
abbrev GZ:List Str:=["machine","one","other","one_ends","other_ends","start","one_end","other_end"]
theorem xJ:GZ.Nodup:=by decide +kernel
abbrev GY:List Str:=["cell","at","primes","one","two","three"]
theorem rG:GY.Nodup:=by decide +kernel
abbrev GX:List Str:=["script","cells","k","cell"]
theorem BG:GX.Nodup:=by decide +kernel
abbrev BB:List Str:=["pen"]
theorem Hf:BB.Nodup:=by decide +kernel
abbrev GV:List Str:=["pen","many","at","cell","found"]
theorem rE:GV.Nodup:=by decide +kernel
abbrev xC:List Str:=["pen","others","all_signs","some"]
theorem xI:xC.Nodup:=by decide +kernel
abbrev Lj:List Str:=["sign","pen","others","all_signs","some"]
theorem Lx:Lj.Nodup:=by decide +kernel
abbrev GU:List Str:=["pen","text","at"]
theorem He:GU.Nodup:=by decide +kernel
abbrev xB:List Str:=["found","due"]
theorem Lw:xB.Nodup:=by decide +kernel
abbrev Li:List Str:=["one","other","found","due"]
theorem Lv:Li.Nodup:=by decide +kernel
abbrev nJ:List Str:=["pen","words","kind","word","other","found"]
theorem vd:nJ.Nodup:=by decide +kernel
abbrev Lh:List Str:=["k","pen","words","kind","word","other","found"]
theorem BF:Lh.Nodup:=by decide +kernel
abbrev xA:List Str:=["pen","words","places","kind","price","at","other"]
theorem vc:xA.Nodup:=by decide +kernel
abbrev Lg:List Str:=["k","pen","words","places","kind","price","at","other"]
theorem Lu:Lg.Nodup:=by decide +kernel
abbrev GR:List Str:=["pen","words","places","most","deeds","k","again","deed"]
theorem nM:GR.Nodup:=by decide +kernel
abbrev xy:List Str:=["pen","machine","most","kind","many","found"]
theorem vb:xy.Nodup:=by decide +kernel
abbrev Lf:List Str:=["k","pen","machine","most","kind","many","found"]
theorem Ls:Lf.Nodup:=by decide +kernel
abbrev xx:List Str:=["thing","many","low","high"]
theorem Lr:xx.Nodup:=by decide +kernel
abbrev Le:List Str:=["one","thing","many","low","high"]
theorem Lq:Le.Nodup:=by decide +kernel
abbrev xv:List Str:=["thing","words","places"]
theorem Lp:xv.Nodup:=by decide +kernel
abbrev Ld:List Str:=["one","thing","words","places"]
theorem Lo:Ld.Nodup:=by decide +kernel
abbrev Lc:List Str:=["deed","thing"]
theorem Ln:Lc.Nodup:=by decide +kernel
abbrev GQ:List Str:=["machine","row","place","number"]
theorem Hd:GQ.Nodup:=by decide +kernel
abbrev GP:List Str:=["pen","thing","deep","kind","pick","number","at","odd","some"]
theorem nK:GP.Nodup:=by decide +kernel
abbrev GO:List Str:=["caught","some","words"]
theorem pI:GO.Nodup:=by decide +kernel
abbrev GN:List Str:=["machine","one","other","caught","e"]
theorem xH:GN.Nodup:=by decide +kernel
abbrev GL:List Str:=["machine","one","other","due"]
theorem BE:GL.Nodup:=by decide +kernel
abbrev GK:List Str:=["pen","machine","row","way","at"]
theorem BD:GK.Nodup:=by decide +kernel
abbrev GJ:List Str:=["script","pen","turn","machine","bad","one","k","first","second","thing","before","due"]
theorem jo:GJ.Nodup:=by decide +kernel
def Pg:Nat->Option Df
 |0=>some ⟨3,3,fx⟩
 |1=>some ⟨2,2,jO⟩
 |2=>some ⟨2,2,iX⟩
 |3=>some ⟨1,1,jP⟩
 |4=>some ⟨2,2,fN⟩
 |5=>some ⟨2,2,iW⟩
 |6=>some ⟨2,2,d5⟩
 |7=>some ⟨3,6,gx⟩
 |8=>some ⟨3,7,gz⟩
 |9=>some ⟨3,6,gy⟩
 |10=>some ⟨3,6,ik⟩
 |11=>some ⟨3,5,gA⟩
 |12=>some ⟨1,4,fw⟩
 |13=>some ⟨1,1,c9⟩
 |15=>some ⟨1,6,dN⟩
 |16=>some ⟨2,2,eC⟩
 |17=>some ⟨2,4,cH⟩
 |18=>some ⟨2,2,dD⟩
 |20=>some ⟨2,6,mP⟩
 |21=>some ⟨2,7,mR⟩
 |22=>some ⟨2,6,oM⟩
 |23=>some ⟨2,6,mQ⟩
 |24=>some ⟨2,4,qK⟩
 |25=>some ⟨3,5,gM⟩
 |27=>some ⟨2,2,dE⟩
 |28=>some ⟨2,6,hV⟩
 |29=>some ⟨1,4,jD⟩
 |30=>some ⟨1,1,jE⟩
 |31=>some ⟨2,5,lQ⟩
 |32=>some ⟨2,6,iY⟩
 |33=>some ⟨3,7,gZ⟩
 |34=>some ⟨4,8,fy⟩
 |35=>some ⟨3,6,iZ⟩
 |40=>some ⟨2,2,dF⟩
 |46=>some ⟨2,2,gD⟩
 |48=>some ⟨3,8,eZ⟩
 |64=>some ⟨2,4,eT⟩
 |65=>some ⟨1,1,eU⟩
 |66=>some ⟨2,3,fP⟩
 |67=>some ⟨1,1,i6⟩
 |68=>some ⟨3,3,lh⟩
 |69=>some ⟨4,4,gO⟩
 |70=>some ⟨3,3,bx⟩
 |71=>some ⟨1,1,d7⟩
 |72=>some ⟨3,9,g7⟩
 |75=>some ⟨1,3,ee⟩
 |90=>some ⟨2,4,de⟩
 |94=>some ⟨3,5,cQ⟩
 |95=>some ⟨3,4,cY⟩
 |96=>some ⟨3,5,fO⟩
 |97=>some ⟨1,12,l9⟩
 |_=>none
end K11
set_option maxHeartbeats 4000000
namespace K11
open PySem PySem.Spec PyProof.Rows L2 LD
abbrev Fx (fa:Fa)(mg:Str->Option Value)(i:Nat)(x:Str):Prop:=∀ad,fa i=some ad->mg x=some (.ref ad)
structure Txt (K:PySem.W.Frag) (w:World) (mg:Str->Option Value) (fa:Fa):Prop where
 b0:mg "ValueError"=none
 b1:mg "all"=none
 b2:mg "bool"=none
 b3:mg "enumerate"=none
 b4:mg "int"=none
 b5:mg "isinstance"=none
 b6:mg "len"=none
 b7:mg "list"=none
 b8:mg "range"=none
 b9:mg "repr"=none
 b10:mg "str"=none
 b11:mg "tuple"=none
 b12:mg "zip"=none
 c_LEAST_WORDS:∃t,mg "LEAST_WORDS"=some (.int 2 t)
 c_LONGEST_ROW:∃t,mg "LONGEST_ROW"=some (.int 40 t)
 c_MOST_COST:∃t,mg "MOST_COST"=some (.int 3 t)
 c_MOST_DEEDS:∃t,mg "MOST_DEEDS"=some (.int 6 t)
 c_MOST_PLACES:∃t,mg "MOST_PLACES"=some (.int 2 t)
 c_MOST_WORDS:∃t,mg "MOST_WORDS"=some (.int 4 t)
 d_NEW_WORDS:∃ad kvs,mg "NEW_WORDS"=some (.ref ad)/\jF K w.params ad kvs/\fG fa kvs dI
 d_SORTS:∃ad kvs,mg "SORTS"=some (.ref ad)/\jF K w.params ad kvs/\fG fa kvs dA
 xc:lG fa K
 k_DeedError:∃D,mg "DeedError"=some (.ref D)/\fa 999=some D
 k_NoRow:∃D,mg "NoRow"=some (.ref D)/\fa (du 0)=some D
 k_NoRule:∃D,mg "NoRule"=some (.ref D)/\fa (du 1)=some D
 k_NoStep:∃D,mg "NoStep"=some (.ref D)/\fa (du 2)=some D
 k_NoMachine:∃D,mg "NoMachine"=some (.ref D)/\fa (du 3)=some D
 k_TooLong:∃D,mg "TooLong"=some (.ref D)/\fa (du 4)=some D
 k_NoWord:∃D,mg "NoWord"=some (.ref D)/\fa (du 5)=some D
 k_NoWork:∃D,mg "NoWork"=some (.ref D)/\fa (du 6)=some D
 k_NoBound:∃D,mg "NoBound"=some (.ref D)/\fa (du 7)=some D
 k_TooMany:∃D,mg "TooMany"=some (.ref D)/\fa (du 8)=some D
 k_NoPlace:∃D,mg "NoPlace"=some (.ref D)/\fa (du 9)=some D
 k_NoDeed:∃D,mg "NoDeed"=some (.ref D)/\fa (du 10)=some D
 k_Nothing:∃D,mg "Nothing"=some (.ref D)/\fa (du 11)=some D
 k_NoText:∃D,mg "NoText"=some (.ref D)/\fa (du 12)=some D
 k_NoLine:∃D,mg "NoLine"=some (.ref D)/\fa (du 13)=some D
 kr_NoMachine:∃C,mg "NoMachine"=some (.ref C)/\fa (du 3)=some C/\PySem.W.excIn K C mT "ValueError.__new__"=true
 kr_TooLong:∃C,mg "TooLong"=some (.ref C)/\fa (du 4)=some C/\PySem.W.excIn K C mT "ValueError.__new__"=true
 i_NoRow:∀(P:Program) (base:Heap),mh fa P w K mg base 0 "NoRow"
 xf_number:Au fa K "number"
 xf_place:Au fa K "place"
 f0:Fx fa mg 0 "is_between"
 f1:Fx fa mg 1 "is_word"
 f2:Fx fa mg 2 "is_place"
 f3:Fx fa mg 3 "is_cost"
 f4:Fx fa mg 4 "is_tuple_of"
 f5:Fx fa mg 5 "is_table"
 f6:Fx fa mg 6 "is_double_table"
 f11:Fx fa mg 11 "is_deed"
 f12:Fx fa mg 12 "is_machine"
 f13:Fx fa mg 13 "need_machine"
 f15:Fx fa mg 15 "beginnings"
 f16:Fx fa mg 16 "is_deed_number"
 f17:Fx fa mg 17 "need_numbers"
 f18:Fx fa mg 18 "need_row"
 f24:Fx fa mg 24 "done"
 f25:Fx fa mg 25 "all_standing"
 f27:Fx fa mg 27 "behaviour"
 f28:Fx fa mg 28 "_law_spread"
 f29:Fx fa mg 29 "_law_open"
 f30:Fx fa mg 30 "_law_anew"
 f31:Fx fa mg 31 "_law_take"
 f32:Fx fa mg 32 "_law_tab"
 f33:Fx fa mg 33 "_law_deed"
 f34:Fx fa mg 34 "_law_machine"
 f35:Fx fa mg 35 "_law_row"
 f40:Fx fa mg 40 "_law_same"
 f46:Fx fa mg 46 "ends_of"
 f48:Fx fa mg 48 "parted"
 f64:Fx fa mg 64 "_law_sign_but"
 f65:Fx fa mg 65 "_law_any_sign"
 f66:Fx fa mg 66 "_law_signed"
 f67:Fx fa mg 67 "_law_is_whole"
 f68:Fx fa mg 68 "_law_is_in"
 f69:Fx fa mg 69 "_law_numbers"
 f70:Fx fa mg 70 "_law_is_deed"
 f71:Fx fa mg 71 "_law_is_machine"
 f72:Fx fa mg 72 "_law_bent"
 f75:Fx fa mg 75 "_law_refusal"
 f90:Fx fa mg 90 "_law_row_due"
 f94:Fx fa mg 94 "_law_told"
 f95:Fx fa mg 95 "_law_due"
 f96:Fx fa mg 96 "_law_spoilt"
theorem boot_bool:bootBuiltins "bool"=some (.type (tyName .bool)):=by decide +kernel
theorem boot_int:bootBuiltins "int"=some (.type (tyName .int)):=by decide +kernel
theorem boot_list:bootBuiltins "list"=some (.type (tyName .list)):=by decide +kernel
theorem boot_str:bootBuiltins "str"=some (.type (tyName .str)):=by decide +kernel
theorem boot_tuple:bootBuiltins "tuple"=some (.type (tyName .tuple)):=by decide +kernel
section
variable {fa:Fa}{P:Program}{w:World}{K:PySem.W.Frag}{mg:Str->Option Value}{base:Heap}
def cA (fa:Fa)(P:Program)(w:World)(K:PySem.W.Frag)(mg:Str->Option Value)(base:Heap)(ns:List Str)(x:Str)(st:Stmt)(b:Call->GS):Prop:=∀{f:Addr} (c:Call) (n:Nat) (cdv:Value) (A:Around) (outer:List PySem.Env) (s:Shared) (H:Hp) (E:XK),(∀f,g9 fa P w K mg base n f (c f))->cy (n+4) (A.deeper (envOfC x (aS st) s.heap.objs.size f cdv))->g8 fa (fX (iu P w) P w K mg base ns x (aS st) f cdv A outer s H E) (dq st) (b c)
theorem cJ {A:Around}{n:Nat}(h:cy (n+4) A):A.units+100<cLine:=by have:=h.un;omega
theorem cz {ns ps:List Str}{sc:Scope}(nd:ns.Nodup)(a:sc.kind=.function:=by exact rfl)(b:sc.isCoroutine=false:=by exact rfl)(c:sc.isGenerator=false:=by exact rfl)(d:ns.take ps.length=ps:=by exact rfl)(e:∀x∈ps,sc.names.lookup x=some .local\/sc.names.lookup x=some .cell:=by decide +kernel)(f:∀y∈sc.names,y.2≠.free:=by decide +kernel):gP ns ps sc:=⟨a,b,c,nd,d,e,f⟩
theorem uW (T:Txt K w mg fa):cA fa P w K mg base Ha "is_between" jR fx:=fun _ _ _ _ _ _ _ _ C hr=>have hu:=cJ hr;unbox (ah (aY (fi (dO (bD (bO aa T.b5 T.b2 boot_bool)) (dG (bQ (bD (bO aa T.b5 T.b4 boot_int)))))) (ah (aC cN) ao) ao) (ah (aC (yC hu aa aa aa)) ao))
theorem zv (T:Txt K w mg fa):cA fa P w K mg base sM "is_word" mr jO:=fun _ _ _ _ _ _ _ _ C hr=>unbox (ah (aC (ay C hr T.f0 (ae aa (ae ak (ae (aA aa ak) aq))))) ao)
theorem xm (T:Txt K w mg fa):cA fa P w K mg base Ko "is_place" lK iX:=fun _ _ _ _ _ _ _ _ C hr=>unbox (ah (aC (ay C hr T.f0 (ae aa (ae ak (ae (aA aa ak) aq))))) ao)
theorem zA (T:Txt K w mg fa):cA fa P w K mg base u6 "is_cost" mz jP:=fun _ _ _ _ _ _ _ _ C hr=>unbox (ah (aC (ay C hr T.f0 (ae aa (ae ak (ae (ia T.c_MOST_COST) aq))))) ao)
theorem tD (T:Txt K w mg fa):cA fa P w K mg base Kn "is_tuple_of" jf fN:=fun _ _ _ _ _ _ _ _ C hr=>have hu:=cJ hr;unbox (ah (aC (d4 (bO aa T.b5 T.b11 boot_tuple) (fH (fJ hu (cj T.b6 (ae aa aq)) aa)))) ao)
theorem xl (T:Txt K w mg fa):cA fa P w K mg base sM "is_table" jx iW:=fun _ _ _ _ _ _ _ _ C hr=>unbox (ah (aC (d4 (ay C hr T.f4 (ae aa (ae aa aq))) (fH (ug T.b1 (ae (fB (cM (own:=["word"]) (bn:=sM) (sc:=aS jx) (N:=sM) rfl rfl rfl (by decide +kernel)) (fR aa) (fun cl C0 fp s0 H0=>ax nd5) (fun cl C0 fp s0 H0=>ay C hr T.f1 (ae aa (ae aa aq)))) aq))))) ao)
theorem oO (T:Txt K w mg fa):cA fa P w K mg base sM "is_double_table" eL d5:=fun _ _ _ _ _ _ _ _ C hr=>unbox (ah (aC (d4 (ay C hr T.f4 (ae aa (ae aa aq))) (fH (ug T.b1 (ae (fB (cM (own:=["table"]) (bn:=sM) (sc:=aS eL) (N:=sM) rfl rfl rfl (by decide +kernel)) (fR aa) (fun cl C0 fp s0 H0=>ax nd6) (fun cl C0 fp s0 H0=>ay C hr T.f5 (ae aa (ae aa aq)))) aq))))) ao)
theorem zw (T:Txt K w mg fa):cA fa P w K mg base Km "is_turn" mv gx:=fun _ _ _ _ _ _ _ _ C hr=>have hu:=cJ hr;unbox (ah (aY (bh hu (cj T.b6 (ae aa aq)) ak) (ah (aC cN) ao) ao) (ah (aN aa (dz Kr (.cons rfl (.inl rfl) (.inl rfl) (.cons rfl (.inl rfl) (.inl rfl) (.cons rfl (.inl rfl) (.inl rfl) (.nil)))))) (ah (aC (d4 (ay C hr T.f2 (ae aa (ae aa aq))) (d4 (ay C hr T.f5 (ae aa (ae aa aq))) (fH (ay C hr T.f3 (ae aa aq)))))) ao)))
theorem zy (T:Txt K w mg fa):cA fa P w K mg base Kl "is_join" mx gz:=fun _ _ _ _ _ _ _ _ C hr=>have hu:=cJ hr;unbox (ah (aY (bh hu (cj T.b6 (ae aa aq)) ak) (ah (aC cN) ao) ao) (ah (aN aa (dz Kq (.cons rfl (.inl rfl) (.inl rfl) (.cons rfl (.inl rfl) (.inl rfl) (.cons rfl (.inl rfl) (.inl rfl) (.cons rfl (.inl rfl) (.inl rfl) (.nil))))))) (ah (aY (fi (dO (bQ (bD (ay C hr T.f2 (ae aa (ae aa aq))))) (dG (bQ (bD (ay C hr T.f2 (ae aa (ae aa aq)))))))) (ah (aC cN) ao) ao) (ah (aC (d4 (ay C hr T.f6 (ae aa (ae aa aq))) (fH (ay C hr T.f3 (ae aa aq))))) ao))))
theorem zx (T:Txt K w mg fa):cA fa P w K mg base Kk "is_move" mw gy:=fun _ _ _ _ _ _ _ _ C hr=>have hu:=cJ hr;unbox (ah (aY (bh hu (cj T.b6 (ae aa aq)) ak) (ah (aC cN) ao) ao) (ah (aN aa (dz Kp (.cons rfl (.inl rfl) (.inl rfl) (.cons rfl (.inl rfl) (.inl rfl) (.cons rfl (.inl rfl) (.inl rfl) (.nil)))))) (ah (aC (d4 (ay C hr T.f2 (ae aa (ae aa aq))) (d4 (ay C hr T.f2 (ae aa (ae aa aq))) (fH (ay C hr T.f3 (ae aa aq)))))) ao)))
theorem Br (T:Txt K w mg fa):cA fa P w K mg base G9 "is_put" nr ik:=fun _ _ _ _ _ _ _ _ C hr=>have hu:=cJ hr;unbox (ah (aY (bh hu (cj T.b6 (ae aa aq)) ak) (ah (aC cN) ao) ao) (ah (aN aa (dz Hn (.cons rfl (.inl rfl) (.inl rfl) (.cons rfl (.inl rfl) (.inl rfl) (.cons rfl (.inl rfl) (.inl rfl) (.nil)))))) (ah (aC (d4 (ay C hr T.f2 (ae aa (ae aa aq))) (d4 (ay C hr T.f1 (ae aa (ae aa aq))) (fH (ay C hr T.f3 (ae aa aq)))))) ao)))
theorem zz (T:Txt K w mg fa):cA fa P w K mg base G8 "is_deed" my gA:=fun _ _ _ _ _ _ _ _ C hr=>unbox (ah (aY (fi (dO (bQ (bD (bO aa T.b5 T.b11 boot_tuple))) (dG (bQ (bD aa))))) (ah (aC cN) ao) ao) (ah (aN (aT aa ak) (ax BK)) (ah (aY (fi (dO (bQ (bD (bO aa T.b5 T.b10 boot_str))) (dG (AD T.d_SORTS aa)))) (ah (aC cN) ao) ao) (ah (aN (ue T.d_SORTS aa) (ax BK)) (ah (aC (uf C hr (ae aa (ae aa (ae (d3 aa (cO ak) c7) aq))))) ao)))))
theorem uV (T:Txt K w mg fa):cA fa P w K mg base xE "is_machine" hG fw:=fun _ _ _ _ _ _ _ _ C hr=>have hu:=cJ hr;unbox (ah (aY (bQ (bD (ay C hr T.f4 (ae ak (ae aa aq))))) (ah (aC cN) ao) ao) (ah (aN aa (dz Hm (.cons rfl (.inr rfl) (.inl rfl) (.cons rfl (.inr rfl) (.inl rfl) (.cons rfl (.inl rfl) (.inl rfl) (.nil)))))) (ah (aY (fi (dO (bQ (bD (ay C hr T.f0 (ae aa (ae (ia T.c_LEAST_WORDS) (ae (ia T.c_MOST_WORDS) aq)))))) (dG (bQ (bD (ay C hr T.f0 (ae aa (ae ak (ae (ia T.c_MOST_PLACES) aq))))))))) (ah (aC cN) ao) ao) (ah (aY (fi (dO (bQ (bD (bO aa T.b5 T.b11 boot_tuple))) (dG (bQ (yD hu ak (cj T.b6 (ae aa aq)) (ia T.c_MOST_DEEDS)))))) (ah (aC cN) ao) ao) (ah (aC (ug T.b1 (ae (fB (cM (own:=["deed"]) (bn:=xE) (sc:=aS hG) (N:=xE) rfl rfl rfl (by decide +kernel)) (fR aa) (fun cl C0 fp s0 H0=>ax LA) (fun cl C0 fp s0 H0=>ay C hr T.f11 (ae aa (ae aa (ae aa aq))))) aq))) ao)))))
theorem rh (T:Txt K w mg fa):cA fa P w K mg base u6 "need_machine" iy c9:=fun _ _ _ _ _ _ _ _ C hr=>unbox (ah (aY (bQ (bD (ay C hr T.f12 (ae aa aq)))) (ah (ud T.kr_NoMachine (ae bz aq)) ao) ao) ao)
theorem uX (T:Txt K w mg fa):cA fa P w K mg base xD "beginnings" hJ dN:=fun _ _ _ _ _ _ _ _ C hr=>unbox (ah (mV (jb C hr T.f13 (ae aa aq))) (ah (aN aa (dz ve (.cons rfl (.inr rfl) (.inl rfl) (.cons rfl (.inl rfl) (.inl rfl) (.cons rfl (.inl rfl) (.inl rfl) (.nil)))))) (ah (aN (bJ (ae (c6 aq) aq)) (ax ve)) (ah (gX PassesOwn.leaving (eV aa T.b8) (ax ve) (ah (Ax (cM (own:=["start" ,"word"]) (bn:=xD) (sc:=aS hJ) (N:=xD) rfl rfl rfl (by decide +kernel)) (fR aa) (fun cl C0 fp s0 H0=>ax Hl) (fun cl C0 fp s0 H0=>eV aa T.b8) (fun cl C0 fp s0 H0=>ax Hl) (fun cl C0 fp s0 H0=>aA aa (c6 (ae aa aq))) (fun cl C0 fp s0 H0=>(fun _=>rfl)) ve) ao)) (ah (aC aa) ao)))))
theorem pF (T:Txt K w mg fa):cA fa P w K mg base G7 "is_deed_number" gU eC:=fun _ _ _ _ _ _ _ _ C hr=>unbox (ah (aC (ay C hr T.f0 (ae aa (ae ak (ae (aA (cj T.b6 (ae (aT aa ak) aq)) ak) aq))))) ao)
theorem rg (T:Txt K w mg fa):cA fa P w K mg base G6 "need_numbers" ix cH:=fun _ _ _ _ _ _ _ _ C hr=>unbox (ah (aY (bQ (bD (bO aa T.b5 T.b7 boot_list))) (ah (sj (T.i_NoRow P base) (CA hr) ak) ao) ao) (ah (gX PassesOwn.leaving (pf aa T.b3) (dz Hk (.cons rfl (.inl rfl) (.inl rfl) (.cons rfl (.inl rfl) (.inl rfl) (.nil)))) (ah (aY (bQ (bD (ay C hr T.f16 (ae aa (ae aa aq))))) (ah (sj (T.i_NoRow P base) (CA hr) aa) ao) ao) ao)) ao))
theorem xk (T:Txt K w mg fa):cA fa P w K mg base rC "need_row" lJ dD:=fun _ _ _ _ _ _ _ _ C hr=>have hu:=cJ hr;unbox (ah (mV (jb C hr T.f13 (ae aa aq))) (ah (mV (jb C hr T.f17 (ae aa (ae aa aq)))) (ah (aY (bh hu (cj T.b6 (ae aa aq)) (ia T.c_LONGEST_ROW)) (ah (ud T.kr_TooLong (ae (IL (ia T.c_LONGEST_ROW)) aq)) ao) ao) ao)))
theorem Bn (T:Txt K w mg fa):cA fa P w K mg base G5 "turned" nh mP:=fun _ _ _ _ _ _ _ _ C hr=>unbox (ah (aN aa (dz Hj (.cons rfl (.inl rfl) (.inl rfl) (.cons rfl (.inl rfl) (.inl rfl) (.cons rfl (.inl rfl) (.inl rfl) (.cons rfl (.inl rfl) (.inl rfl) (.nil))))))) (ah (aC (aT aa (aT aa aa))) ao))
theorem Bq (T:Txt K w mg fa):cA fa P w K mg base G4 "joined" nq mR:=fun _ _ _ _ _ _ _ _ C hr=>unbox (ah (aN aa (dz Hi (.cons rfl (.inl rfl) (.inl rfl) (.cons rfl (.inl rfl) (.inl rfl) (.cons rfl (.inl rfl) (.inl rfl) (.cons rfl (.inl rfl) (.inl rfl) (.cons rfl (.inl rfl) (.inl rfl) (.nil)))))))) (ah (aC (aT (aT aa (aT aa aa)) (aT aa aa))) ao))
theorem D6 (T:Txt K w mg fa):cA fa P w K mg base G3 "moved" pw oM:=fun _ _ _ _ _ _ _ _ C hr=>unbox (ah (aN aa (dz Hh (.cons rfl (.inl rfl) (.inl rfl) (.cons rfl (.inl rfl) (.inl rfl) (.cons rfl (.inl rfl) (.inl rfl) (.cons rfl (.inl rfl) (.inl rfl) (.nil))))))) (ah (aC (aT aa aa)) ao))
theorem Bo (T:Txt K w mg fa):cA fa P w K mg base G2 "put_in" ni mQ:=fun _ _ _ _ _ _ _ _ C hr=>unbox (ah (aN aa (dz Hg (.cons rfl (.inl rfl) (.inl rfl) (.cons rfl (.inl rfl) (.inl rfl) (.cons rfl (.inl rfl) (.inl rfl) (.cons rfl (.inl rfl) (.inl rfl) (.nil))))))) (ah (aC aa) ao))
theorem Gn (T:Txt K w mg fa):cA fa P w K mg base G1 "done" qT qK:=fun _ _ _ _ _ _ _ _ C hr=>unbox (ah (aN (ue T.d_NEW_WORDS (aT aa ak)) (ax BI)) (ah (aN (aT aa ak) (ax BI)) (ah (aC (aA (aA (d3 aa c7 (cO aa)) (c6 (ae (uf C hr (ae aa (ae aa aq))) aq))) (d3 aa (cO (aA aa ak)) c7))) ao)))
theorem rj (T:Txt K w mg fa):cA fa P w K mg base G0 "all_standing" iz gM:=fun _ _ _ _ _ _ _ _ C hr=>unbox (ah (aN (bJ (ae aa aq)) (ax BH)) (ah (gX PassesOwn.leaving (fR aa) (ax BH) (ah (yA aa (ay C hr T.f24 (ae (aT (aT aa ak) aa) (ae (aT aa (ki ak)) aq)))) ao)) (ah (aC aa) ao)))
theorem zB (T:Txt K w mg fa):cA fa P w K mg base rC "ends_of" jX gD:=fun _ _ _ _ _ _ _ _ C hr=>unbox (ah (aC (gk T.b11 (ae (fB (cM (own:=["start"]) (bn:=rC) (sc:=aS jX) (N:=rC) rfl rfl rfl (by decide +kernel)) (fR (ay C hr T.f15 (ae aa aq))) (fun cl C0 fp s0 H0=>ax Ly) (fun cl C0 fp s0 H0=>aT (ay C hr T.f25 (ae aa (ae aa (ae aa aq)))) (ki ak))) aq))) ao)
theorem vI (T:Txt K w mg fa):cA fa P w K mg base rC "behaviour" kn dE:=fun _ _ _ _ _ _ _ _ C hr=>unbox (ah (mV (jb C hr T.f18 (ae aa (ae aa aq)))) (ah (aC (ay C hr T.f46 (ae aa (ae aa aq)))) ao))
theorem Bp (T:Txt K w mg fa):cA fa P w K mg base GZ "parted" nj eZ:=fun _ _ _ _ _ _ _ _ C hr=>have hu:=cJ hr;unbox (ah (vT (jb C hr T.f27 (ae aa (ae aa aq))) (ax xJ)) (ah (vT (jb C hr T.f27 (ae aa (ae aa aq))) (ax xJ)) (ah (gX PassesOwn.leaving (AE (ay C hr T.f15 (ae aa aq)) aa aa T.b12) (dz xJ (.cons rfl (.inl rfl) (.inl rfl) (.cons rfl (.inl rfl) (.inl rfl) (.cons rfl (.inl rfl) (.inl rfl) (.nil))))) (ah (aY (bh hu aa aa) (ah (aC aa) ao) ao) ao)) (ah (aC gY) ao))))
theorem tG (T:Txt K w mg fa):cA fa P w K mg base GY "_law_spread" jg hV:=fun _ _ _ _ _ _ _ _ C hr=>have hu:=cJ hr;unbox (ah (aY (bh hu aa (aA ak ak)) (ah (aC aa) ao) ao) (ah (aN (bJ (ae ak (ae ak (ae ak (ae ak (ae ak (ae ak (ae ak (ae ak aq))))))))) (ax rG)) (ah (aN (aA aa (bJ (ae ak (ae ak (ae ak (ae ak (ae ak aq))))))) (ax rG)) (ah (aN (aA (aA (aA (aA (aA (aA aa ak) (aA (aA ak aa) ak)) (aA aa ak)) ak) ak) (aT aa (aA aa ak))) (ax rG)) (ah (aN (aA (aA (aA (aA (aA aa (aA aa ak)) (aA aa ak)) ak) ak) (aT aa (aA (aA aa ak) ak))) (ax rG)) (ah (aN (aA (aA (aA (aA aa (aA aa ak)) aa) ak) (aT aa (aA (aA aa ak) ak))) (ax rG)) (ah (aC (aA (aA (aA (aA aa ak) aa) ak) aa)) ao)))))))
theorem vM (T:Txt K w mg fa):cA fa P w K mg base GX "_law_open" ks jD:=fun _ _ _ _ _ _ _ _ C hr=>unbox (ah (aN (vW T.b7 (ae (d3 aa c7 (cO ak)) aq)) (ax BG)) (ah (gX PassesOwn.leaving (pf (d3 aa (cO ak) (cO ak)) T.b3) (dz BG (.cons rfl (.inl rfl) (.inl rfl) (.cons rfl (.inl rfl) (.inl rfl) (.nil)))) (ah (kg aa (aA aa ak) (aA (aT aa (aA aa ak)) aa)) ao)) (ah (aC (bJ (ae aa (ae ak (ae ak aq))))) ao)))
theorem vP (T:Txt K w mg fa):cA fa P w K mg base BB "_law_anew" ky jE:=fun _ _ _ _ _ _ _ _ C hr=>unbox (ah (kg aa ak ak) (ah (aC aa) ao))
theorem vK (T:Txt K w mg fa):cA fa P w K mg base GV "_law_take" kr lQ:=fun _ _ _ _ _ _ _ _ C hr=>have hu:=cJ hr;unbox (ah (aY (bh hu (aT aa ak) aa) (ah (aN (aT aa ak) (ax rE)) (ah (aN ak (ax rE)) (ah (aY (bh hu aa (cj T.b6 (ae (aT aa ak) aq))) (ah (aN (aT (aT aa ak) aa) (ax rE)) ao) (ah (aY (bh hu (cj T.b6 (ae (aT aa ak) aq)) ak) (ah (aN (aA (aT (aT aa ak) (aA (aA (aA aa ak) ak) (cj T.b6 (ae (aT aa ak) aq)))) (aA (aA ak ak) aa)) (ax rE)) ao) ao) ao)) (ah (kg aa ak (aA aa ak)) (ah (kg aa ak (ay C hr T.f28 (ae aa (ae aa aq)))) ao))))) ao) (ah (aN (aA (aT aa ak) aa) (ax rE)) (ah (kg aa ak (aA (aT aa ak) aa)) (ah (aC aa) ao))))
theorem ql (T:Txt K w mg fa):cA fa P w K mg base xC "_law_sign_but" fC eT:=fun _ _ _ _ _ _ _ _ C hr=>have hu:=cJ hr;unbox (ah (aN bz (ax xI)) (ah (aN (aA aa bz) (ax xI)) (ah (yz (cM (own:=["sign"]) (bn:=xC) (sc:=aS fC) (N:=xC) rfl rfl rfl (by decide +kernel)) (AG aa) (fun cl C0 fp s0 H0=>ax Lx) (fun cl C0 fp s0 H0=>bh hu aa aa) (fun cl C0 fp s0 H0=>aa) xI) (ah (aC (aT aa (ay C hr T.f31 (ae aa (ae (cj T.b6 (ae aa aq)) aq))))) ao))))
theorem qo (T:Txt K w mg fa):cA fa P w K mg base BB "_law_any_sign" ig eU:=fun _ _ _ _ _ _ _ _ C hr=>unbox (ah (aC (ay C hr T.f64 (ae aa (ae bz aq)))) ao)
theorem tJ (T:Txt K w mg fa):cA fa P w K mg base GU "_law_signed" ji fP:=fun _ _ _ _ _ _ _ _ C hr=>unbox (ah (aN (ay C hr T.f31 (ae aa (ae (aA (cj T.b6 (ae aa aq)) ak) aq))) (ax He)) (ah (aC (aA (aA (vU aa c7 (cO aa)) (ay C hr T.f65 (ae aa aq))) (vU aa (cO (aA aa (ay C hr T.f31 (ae aa (ae ak aq))))) c7))) ao))
theorem qm (T:Txt K w mg fa):cA fa P w K mg base u6 "_law_is_whole" ie i6:=fun _ _ _ _ _ _ _ _ C hr=>unbox (ah (aC (d4 (bO aa T.b5 T.b4 boot_int) (fH (E8 (bO aa T.b5 T.b2 boot_bool))))) ao)
theorem vL (T:Txt K w mg fa):cA fa P w K mg base xB "_law_same" iA dF:=fun _ _ _ _ _ _ _ _ C hr=>have hu:=cJ hr;unbox (ah (aY (bh hu aa gY) (ah (aC (fJ hu aa gY)) ao) ao) (ah (aY (fi (dO (bD (bO aa T.b5 T.b2 boot_bool)) (dG (bD (bO aa T.b5 T.b2 boot_bool))))) (ah (aC (d4 (bO aa T.b5 T.b2 boot_bool) (d4 (bO aa T.b5 T.b2 boot_bool) (fH (fJ hu aa aa))))) ao) ao) (ah (aY (bD (bO aa T.b5 T.b4 boot_int)) (ah (aC (d4 (bO aa T.b5 T.b4 boot_int) (fH (fJ hu aa aa)))) ao) ao) (ah (aY (bD (bO aa T.b5 T.b10 boot_str)) (ah (aC (d4 (bO aa T.b5 T.b10 boot_str) (fH (fJ hu aa aa)))) ao) ao) (ah (aY (fi (dO (bh hu (bO aa T.b5 T.b11 boot_tuple) (bO aa T.b5 T.b11 boot_tuple)) (dG (bh hu (bO aa T.b5 T.b7 boot_list) (bO aa T.b5 T.b7 boot_list))))) (ah (aC cN) ao) ao) (ah (aY (bh hu (cj T.b6 (ae aa aq)) (cj T.b6 (ae aa aq))) (ah (aC cN) ao) ao) (ah (aC (fJ hu cN (fB (cM (own:=["one" ,"other"]) (bn:=xB) (sc:=aS iA) (N:=xB) rfl rfl rfl (by decide +kernel)) (AF aa aa T.b12) (fun cl C0 fp s0 H0=>dz Lv (.cons rfl (.inl rfl) (.inr rfl) (.cons rfl (.inl rfl) (.inr rfl) (.nil)))) (fun cl C0 fp s0 H0=>ay C hr T.f40 (ae aa (ae aa aq)))))) ao)))))))
theorem xn (T:Txt K w mg fa):cA fa P w K mg base nJ "_law_tab" fS iY:=fun _ _ _ _ _ _ _ _ C hr=>have hu:=cJ hr;unbox (ah (aN (ay C hr T.f31 (ae aa (ae ak aq))) (ax vd)) (ah (aN (ay C hr T.f31 (ae aa (ae aa aq))) (ax vd)) (ah (aN (ay C hr T.f31 (ae aa (ae aa aq))) (ax vd)) (ah (aY (bh hu aa ak) (ah (aC (gk T.b11 (ae (fB (cM (own:=["k"]) (bn:=nJ) (sc:=aS fS) (N:=nJ) rfl rfl rfl (by decide +kernel)) (eV aa T.b8) (fun cl C0 fp s0 H0=>ax BF) (fun cl C0 fp s0 H0=>ay C hr T.f31 (ae aa (ae aa aq)))) aq))) ao) ao) (ah (aY (bh hu aa ak) (ah (aC (gk T.b11 (ae (fB (cM (own:=["k"]) (bn:=nJ) (sc:=aS fS) (N:=nJ) rfl rfl rfl (by decide +kernel)) (eV aa T.b8) (fun cl C0 fp s0 H0=>ax BF) (fun cl C0 fp s0 H0=>aA (aA (aA aa ak) aa) aa)) aq))) ao) ao) (ah (aY (bh hu aa ak) (ah (aC (gk T.b11 (ae (fB (cM (own:=["k"]) (bn:=nJ) (sc:=aS fS) (N:=nJ) rfl rfl rfl (by decide +kernel)) (eV aa T.b8) (fun cl C0 fp s0 H0=>ax BF) (fun cl C0 fp s0 H0=>lS (bh hu aa aa) aa aa)) aq))) ao) ao) (ah (aY (bh hu aa ak) (ah (aC (aA (c6 (ae aa aq)) aa)) ao) ao) (ah (aN (Az aa T.b7 T.b8) (ax vd)) (ah (kg aa aa aa) (ah (kg aa aa aa) (ah (aC (gk T.b11 (ae aa aq))) ao)))))))))))
theorem vN (T:Txt K w mg fa):cA fa P w K mg base xA "_law_deed" iE gZ:=fun _ _ _ _ _ _ _ _ C hr=>have hu:=cJ hr;unbox (ah (aN (ay C hr T.f31 (ae aa (ae ak aq))) (ax vc)) (ah (aN (aA ak (ay C hr T.f31 (ae aa (ae ak aq)))) (ax vc)) (ah (aN (ay C hr T.f31 (ae aa (ae aa aq))) (ax vc)) (ah (aN (ay C hr T.f31 (ae aa (ae aa aq))) (ax vc)) (ah (aY (bh hu aa ak) (ah (aC (c6 (ae bz (ae aa (ae (ay C hr T.f32 (ae aa (ae aa aq))) (ae aa aq)))))) ao) ao) (ah (aY (bh hu aa ak) (ah (aC (c6 (ae bz (ae aa (ae (lS (bh hu aa ak) (aA (aA aa ak) aa) aa) (ae aa aq)))))) ao) ao) (ah (aY (bh hu aa ak) (ah (aC (c6 (ae bz (ae aa (ae (ay C hr T.f31 (ae aa (ae aa aq))) (ae aa aq)))))) ao) ao) (ah (aC (c6 (ae bz (ae aa (ae aa (ae (gk T.b11 (ae (fB (cM (own:=["k"]) (bn:=xA) (sc:=aS iE) (N:=xA) rfl rfl rfl (by decide +kernel)) (eV aa T.b8) (fun cl C0 fp s0 H0=>ax Lu) (fun cl C0 fp s0 H0=>ay C hr T.f32 (ae aa (ae aa aq)))) aq)) (ae aa aq))))))) ao))))))))
theorem rq (T:Txt K w mg fa):cA fa P w K mg base GR "_law_machine" iD fy:=fun _ _ _ _ _ _ _ _ C hr=>have hu:=cJ hr;unbox (ah (aN (aA ak (ay C hr T.f31 (ae aa (ae (aA aa ak) aq)))) (ax nM)) (ah (aN (aA ak (ay C hr T.f31 (ae aa (ae aa aq)))) (ax nM)) (ah (aN (bJ aq) (ax nM)) (ah (gX PassesOwn.leaving (eV (aA ak (ay C hr T.f31 (ae aa (ae aa aq)))) T.b8) (ax nM) (ah (aN (ay C hr T.f31 (ae aa (ae ak aq))) (ax nM)) (ah (aN (ay C hr T.f33 (ae aa (ae aa (ae aa aq)))) (ax nM)) (ah (aY (fi (mX (bh hu aa ak) (qO (bh hu aa (bJ aq))))) (ah (aN (aA (d3 (aT aa (ay C hr T.f31 (ae aa (ae (cj T.b6 (ae aa aq)) aq)))) c7 (cO (ki ak))) (c6 (ae (aT aa (ki ak)) aq))) (ax nM)) ao) ao) (ah (yA aa aa) ao))))) (ah (aC (c6 (ae aa (ae aa (ae (gk T.b11 (ae aa aq)) aq))))) ao)))))
theorem xo (T:Txt K w mg fa):cA fa P w K mg base xy "_law_row" jy iZ:=fun _ _ _ _ _ _ _ _ C hr=>have hu:=cJ hr;unbox (ah (aN (ay C hr T.f31 (ae aa (ae ak aq))) (ax vb)) (ah (aN (lS (bh hu aa ak) aa (ay C hr T.f31 (ae aa (ae (aA aa ak) aq)))) (ax vb)) (ah (Ay (cM (own:=["k"]) (bn:=xy) (sc:=aS jy) (N:=xy) rfl rfl rfl (by decide +kernel)) (eV aa T.b8) (fun cl C0 fp s0 H0=>ax Ls) (fun cl C0 fp s0 H0=>ay C hr T.f31 (ae aa (ae (cj T.b6 (ae (aT aa ak) aq)) aq))) vb) (ah (aY (bh hu aa ak) (ah (aN (d3 (aA (d3 aa c7 (cO ak)) aa) c7 (cO aa)) (ax vb)) ao) ao) (ah (aC aa) ao)))))
theorem uY (T:Txt K w mg fa):cA fa P w K mg base Ha "_law_is_in" jS lh:=fun _ _ _ _ _ _ _ _ C hr=>have hu:=cJ hr;unbox (ah (aC (d4 (ay C hr T.f67 (ae aa aq)) (fH (yC hu aa aa aa)))) ao)
theorem rn (T:Txt K w mg fa):cA fa P w K mg base xx "_law_numbers" fY gO:=fun _ _ _ _ _ _ _ _ C hr=>have hu:=cJ hr;unbox (ah (aY (fi (dO (bQ (bD (bO aa T.b5 T.b11 boot_tuple))) (dG (bh hu (cj T.b6 (ae aa aq)) aa)))) (ah (aC cN) ao) ao) (ah (aC (fJ hu (mW (cM (own:=["one"]) (bn:=xx) (sc:=aS fY) (N:=xx) rfl rfl rfl (by decide +kernel)) (fR aa) (fun cl C0 fp s0 H0=>ax Lq) (fun cl C0 fp s0 H0=>bQ (bD (ay C hr T.f68 (ae aa (ae aa (ae aa aq)))))) (fun cl C0 fp s0 H0=>ak)) (bJ aq))) ao))
theorem rA (T:Txt K w mg fa):cA fa P w K mg base xv "_law_is_deed" fZ bx:=fun _ _ _ _ _ _ _ _ C hr=>have hu:=cJ hr;unbox (ah (aY (fi (dO (bQ (bD (bO aa T.b5 T.b11 boot_tuple))) (dG (bh hu (cj T.b6 (ae aa aq)) (c6 (ae ak (ae ak aq))))))) (ah (aC cN) ao) ao) (ah (aY (fi (dO (bh hu (aT aa ak) (c6 (ae bz (ae bz (ae bz (ae bz aq)))))) (dG (bh hu (fJ hu (cj T.b6 (ae aa aq)) ak) (fJ hu (aT aa ak) bz))))) (ah (aC cN) ao) ao) (ah (aY (fi (dO (bQ (bD (ay C hr T.f69 (ae (c6 (ae (aT aa ak) aq)) (ae ak (ae ak (ae (aA aa ak) aq))))))) (dG (bQ (bD (ay C hr T.f68 (ae (aT aa (ki ak)) (ae ak (ae ak aq))))))))) (ah (aC cN) ao) ao) (ah (aY (bh hu (aT aa ak) bz) (ah (aC (ay C hr T.f69 (ae (aT aa ak) (ae aa (ae ak (ae (aA aa ak) aq)))))) ao) ao) (ah (aY (bh hu (aT aa ak) bz) (ah (aC (ay C hr T.f68 (ae (aT aa ak) (ae ak (ae (aA aa ak) aq))))) ao) ao) (ah (aY (bQ (bD (ay C hr T.f68 (ae (aT aa ak) (ae ak (ae (aA aa ak) aq)))))) (ah (aC cN) ao) ao) (ah (aY (bh hu (aT aa ak) bz) (ah (aC cN) ao) ao) (ah (aY (fi (dO (bQ (bD (bO (aT aa ak) T.b5 T.b11 boot_tuple))) (dG (bh hu (cj T.b6 (ae (aT aa ak) aq)) aa)))) (ah (aC cN) ao) ao) (ah (aC (fJ hu (mW (cM (own:=["one"]) (bn:=xv) (sc:=aS fZ) (N:=xv) rfl rfl rfl (by decide +kernel)) (fR (aT aa ak)) (fun cl C0 fp s0 H0=>ax Lo) (fun cl C0 fp s0 H0=>bQ (bD (ay C hr T.f69 (ae aa (ae aa (ae ak (ae (aA aa ak) aq))))))) (fun cl C0 fp s0 H0=>ak)) (bJ aq))) ao)))))))))
theorem oP (T:Txt K w mg fa):cA fa P w K mg base u6 "_law_is_machine" eO d7:=fun _ _ _ _ _ _ _ _ C hr=>have hu:=cJ hr;unbox (ah (aY (fi (dO (bQ (bD (bO aa T.b5 T.b11 boot_tuple))) (dO (bh hu (cj T.b6 (ae aa aq)) ak) (dG (bQ (bD (ay C hr T.f68 (ae (aT aa ak) (ae ak (ae ak aq)))))))))) (ah (aC cN) ao) ao) (ah (aY (fi (dO (bQ (bD (ay C hr T.f68 (ae (aT aa ak) (ae ak (ae ak aq)))))) (dO (bQ (bD (bO (aT aa ak) T.b5 T.b11 boot_tuple))) (dG (bQ (yD hu ak (cj T.b6 (ae (aT aa ak) aq)) ak)))))) (ah (aC cN) ao) ao) (ah (aC (fJ hu (mW (cM (own:=["deed"]) (bn:=u6) (sc:=aS eO) (N:=u6) rfl rfl rfl (by decide +kernel)) (fR (aT aa ak)) (fun cl C0 fp s0 H0=>ax Ln) (fun cl C0 fp s0 H0=>bQ (bD (ay C hr T.f70 (ae aa (ae (aT aa ak) (ae (aT aa ak) aq)))))) (fun cl C0 fp s0 H0=>ak)) (bJ aq))) ao)))
theorem rk (T:Txt K w mg fa):cA fa P w K mg base GQ "_law_row_due" iB de:=fun _ _ _ _ _ _ _ _ C hr=>have hu:=cJ hr;unbox (ah (aY (bQ (bD (ay C hr T.f71 (ae aa aq)))) (ah (aC (bJ (ae bz aq))) ao) ao) (ah (aY (bQ (bD (bO aa T.b5 T.b7 boot_list))) (ah (aC (bJ (ae bz (ae ak aq)))) ao) ao) (ah (gX PassesOwn.leaving (pf aa T.b3) (dz Hd (.cons rfl (.inl rfl) (.inl rfl) (.cons rfl (.inl rfl) (.inl rfl) (.nil)))) (ah (aY (bQ (bD (ay C hr T.f68 (ae aa (ae ak (ae (aA (cj T.b6 (ae (aT aa ak) aq)) ak) aq)))))) (ah (aC (bJ (ae bz (ae aa aq)))) ao) ao) ao)) (ah (aC (lS (bh hu (cj T.b6 (ae aa aq)) ak) (bJ (ae bz aq)) gY)) ao))))
theorem vO (T:Txt K w mg fa):cA fa P w K mg base GP "_law_bent" ku g7:=fun _ _ _ _ _ _ _ _ C hr=>have hu:=cJ hr;unbox (ah (aN (ay C hr T.f31 (ae aa (ae ak aq))) (ax nK)) (ah (aN (ay C hr T.f31 (ae aa (ae ak aq))) (ax nK)) (ah (aN (aA (ay C hr T.f31 (ae aa (ae ak aq))) ak) (ax nK)) (ah (aY (fi (mX (bD (bO aa T.b5 T.b11 boot_tuple)) (mX (bh hu aa (c6 aq)) (mX (bh hu aa ak) (qO (bh hu aa ak)))))) (ah (aN (ay C hr T.f31 (ae aa (ae (cj T.b6 (ae aa aq)) aq))) (ax nK)) (ah (aC (aA (aA (d3 aa c7 (cO aa)) (c6 (ae (ay C hr T.f72 (ae aa (ae (aT aa aa) (ae (aA aa ak) aq)))) aq))) (d3 aa (cO (aA aa ak)) c7))) ao)) ao) (ah (aN (bJ (ae gY (ae cN (ae cN (ae bz (ae bz (ae bz (ae bz (ae bz (ae bz (ae (c6 aq) (ae (bJ aq) (ae (aA ak ak) (ae (ki ak) (ae ak aq))))))))))))))) (ax nK)) (ah (aN (aA aa (bJ (ae ak (ae ak (ae (c6 (ae ak aq)) (ae (bJ (ae ak aq)) (ae bz (ae ak aq)))))))) (ax nK)) (ah (aY (bD (bO aa T.b5 T.b11 boot_tuple)) (ah (aN (bJ (ae (vW T.b7 (ae aa aq)) (ae (aA aa (d3 aa c7 (cO ak))) (ae (d3 aa c7 (cO (ki ak))) (ae (yB aa) (ae (aA aa (c6 (ae aa aq))) (ae (d3 aa (cO ak) c7) (ae (c6 (ae aa aq)) aq)))))))) (ax nK)) (ah (aC (aT (aA aa (bJ (ae (aT aa aa) aq))) aa)) ao)) ao) (ah (aY (bD (ay C hr T.f67 (ae aa aq))) (ah (aC (aT (bJ (ae (aA aa ak) (ae (aA aa ak) (ae (aA ak aa) (ae aa (ae aa (ae (fJ hu aa ak) (ae (aA ak aa) (ae (aT aa aa) aq))))))))) aa)) ao) ao) (ah (aY (fi (mX (bD (bO aa T.b5 T.b10 boot_str)) (qO (bh hu aa ak)))) (ah (aC (ay C hr T.f66 (ae aa (ae aa aq)))) ao) ao) (ah (aC (aT aa aa)) ao))))))))))
theorem rm (T:Txt K w mg fa):cA fa P w K mg base GO "_law_refusal" iC ee:=fun _ _ _ _ _ _ _ _ C hr=>have hu:=cJ hr;unbox (ah (aN (bJ (ae (dm T.xc T.k_NoRow aa T.b5) (ae (dm T.xc T.k_NoRule aa T.b5) (ae (dm T.xc T.k_NoStep aa T.b5) aq)))) (ax pI)) (ah (aN (aA aa (bJ (ae (dm T.xc T.k_NoMachine aa T.b5) (ae (dm T.xc T.k_TooLong aa T.b5) (ae (dm T.xc T.k_NoWord aa T.b5) aq))))) (ax pI)) (ah (aN (aA aa (bJ (ae (dm T.xc T.k_NoWork aa T.b5) (ae (dm T.xc T.k_NoBound aa T.b5) (ae (dm T.xc T.k_TooMany aa T.b5) aq))))) (ax pI)) (ah (aN (aA aa (bJ (ae (dm T.xc T.k_NoPlace aa T.b5) (ae (dm T.xc T.k_NoDeed aa T.b5) (ae (dm T.xc T.k_Nothing aa T.b5) aq))))) (ax pI)) (ah (aN (aA aa (bJ (ae (dm T.xc T.k_NoText aa T.b5) (ae (dm T.xc T.k_NoLine aa T.b5) aq)))) (ax pI)) (ah (aY (fi (dO (bh hu (Dg aa) ak) (dO (bQ (bD (AB T.xc T.k_DeedError aa T.b5))) (dG (bQ (bD (AA T.xc aa T.b5 T.b0))))))) (ah (aC (bJ (ae bz aq))) ao) ao) (ah (aY (bD (aT aa ak)) (ah (aC (bJ (ae bz (ae (pe T.xc T.xf_place aa) aq)))) ao) ao) (ah (aY (bD (aT aa ak)) (ah (aC (bJ (ae bz (ae (pe T.xc T.xf_number aa) aq)))) ao) ao) (ah (aY (bD (aT aa ak)) (ah (aC (bJ (ae bz (ae (pe T.xc T.xf_place aa) aq)))) ao) ao) (ah (aN (bJ (ae bz (ae bz (ae bz (ae bz (ae bz (ae bz (ae bz (ae bz (ae bz (ae bz (ae bz aq)))))))))))) (ax pI)) (ah (aC (bJ (ae (aT aa (aA (De aa) ak)) aq))) ao)))))))))))
theorem vJ (T:Txt K w mg fa):cA fa P w K mg base GN "_law_told" ko cQ:=fun _ _ _ _ _ _ _ _ C hr=>have hu:=cJ hr;unbox (ah (aN gY (ax xH)) (ah (E7 T.xc T.k_DeedError xH (fun pn Ex=>ah (mV (jb C hr T.f48 (ae aa (ae aa (ae aa aq))))) ao) (fun vx Ex=>ah (aN aa (ax xH)) ao)) (ah (aC (lS (bh hu aa gY) (bJ (ae bz aq)) (ay C hr T.f75 (ae aa aq)))) ao)))
theorem xp (T:Txt K w mg fa):cA fa P w K mg base GL "_law_due" lL cY:=fun _ _ _ _ _ _ _ _ C hr=>have hu:=cJ hr;unbox (ah (aN (ay C hr T.f90 (ae aa (ae aa aq))) (ax BE)) (ah (aY (bh hu aa gY) (ah (aN (ay C hr T.f90 (ae aa (ae aa aq))) (ax BE)) ao) ao) (ah (aC (lS (bh hu aa gY) (bJ (ae bz aq)) aa)) ao)))
theorem tH (T:Txt K w mg fa):cA fa P w K mg base GK "_law_spoilt" jh fO:=fun _ _ _ _ _ _ _ _ C hr=>have hu:=cJ hr;unbox (ah (aN (ay C hr T.f31 (ae aa (ae ak aq))) (ax BD)) (ah (aN (ay C hr T.f31 (ae aa (ae (aA (cj T.b6 (ae aa aq)) ak) aq))) (ax BD)) (ah (aY (bh hu aa ak) (ah (aC aa) ao) ao) (ah (aY (bh hu aa ak) (ah (aC (d3 (aA aa (aA (bJ (ae ak aq)) ak)) c7 (cO ak))) ao) ao) (ah (aY (bh hu aa ak) (ah (aC (aT (bJ (ae gY (ae (gk T.b11 (ae aa aq)) (ae bz (ae ak (ae (c6 aq) aq)))))) (ay C hr T.f31 (ae aa (ae ak aq))))) ao) ao) (ah (aC (aA (aA (aA (d3 aa c7 (cO aa)) (bJ (ae (ay C hr T.f72 (ae aa (ae ak (ae ak aq)))) aq))) (d3 aa (cO aa) c7)) (aA (bJ (ae ak aq)) (aA ak (aA aa ak))))) ao))))))
theorem CI (T:Txt K w mg fa):cA fa P w K mg base GJ "law" ux l9:=fun _ _ _ _ _ _ _ _ C hr=>have hu:=cJ hr;unbox (ah (aN (ay C hr T.f29 (ae aa aq)) (ax jo)) (ah (gX PassesOwn.leaving (eV ak T.b8) (ax jo) (ah (aN (ay C hr T.f34 (ae (ay C hr T.f30 (ae aa aq)) (ae ak (ae ak (ae ak aq))))) (ax jo)) (ah (aN (ay C hr T.f72 (ae aa (ae aa (ae ak aq)))) (ax jo)) (ah (aN (ay C hr T.f35 (ae aa (ae aa (ae ak aq)))) (ax jo)) (ah (gX PassesOwn.leaving (eV ak T.b8) (ax jo) (ah (aN (ay C hr T.f96 (ae aa (ae aa (ae aa aq)))) (ax jo)) (ah (aN (ay C hr T.f96 (ae aa (ae aa (ae (yB aa) aq)))) (ax jo)) (ah (gX PassesOwn.leaving (fR (bJ (ae aa (ae aa aq)))) (ax jo) (ah (aN (vV hr T.b9 (ae (bJ (ae aa (ae aa aq))) aq)) (ax jo)) (ah (aN (ay C hr T.f95 (ae aa (ae aa (ae aa aq)))) (ax jo)) (ah (aY (fi (dO (bQ (bD (ay C hr T.f40 (ae (ay C hr T.f94 (ae aa (ae aa (ae aa aq)))) (ae aa aq))))) (dG (bh hu (vV hr T.b9 (ae (bJ (ae aa (ae aa aq))) aq)) aa)))) (ah (aC cN) ao) ao) ao)))) ao)))) ao))))) (ah (aC cN) ao)))
end
end K11
namespace K11
open PySem PySem.Spec PyProof.Rows L2 LD
theorem BR:∀ns:List Int,ns.length<=63->∃M,av Pg 40 97 [.frz (ns.map D.int)] []=.ok (.bl true) M:=Jx (by repeat' (first|rfl|constructor))
abbrev qC:Str:="leastdeeds.machines"
abbrev qD:Str:="leastdeeds.runs"
abbrev rS (l:List (Nat×Addr)):Fa:=LD.Ab l [(0,44),(1,63),(2,82),(3,94),(4,106),(5,118),(6,130),(7,142),(8,154),(9,166),(10,178),(11,190),(12,202),(13,214)] 24
abbrev Fu (K:PySem.W.Frag)(x:Str)(st:Stmt)(f:Addr)(fd:FuncData):Prop:=oX K x x st f fd
section
variable {P:Program}{w:World}{K:PySem.W.Frag}{mg:Str->Option Value}{base:Heap}{f0 f1 f2 f3 f4 f5 f6 f7 f8 f9 f10 f11 f12 f13 f15 f16 f17 f18 f20 f21 f22 f23 f24 f25 f46 f27 f48 f28 f29 f30 f31 f64 f65 f66 f67 f40 f32 f33 f34 f35 f68 f69 f70 f71 f90 f72 f75 f94 f95 f96 f97:Addr}{fd0 fd1 fd2 fd3 fd4 fd5 fd6 fd7 fd8 fd9 fd10 fd11 fd12 fd13 fd15 fd16 fd17 fd18 fd20 fd21 fd22 fd23 fd24 fd25 fd46 fd27 fd48 fd28 fd29 fd30 fd31 fd64 fd65 fd66 fd67 fd40 fd32 fd33 fd34 fd35 fd68 fd69 fd70 fd71 fd90 fd72 fd75 fd94 fd95 fd96 fd97:FuncData}
theorem KD {F:FuncData}{z:List Str}(h:∀a:Value,bindArgs F ⟨[a],[]⟩=pure (z.zip [a])):∀us:List Value,us.length=1->bindArgs F ⟨us,[]⟩=pure (z.zip us):=LD.us1 h
theorem KC {F:FuncData}{z:List Str}(h:∀a b:Value,bindArgs F ⟨[a,b],[]⟩=pure (z.zip [a,b])):∀us:List Value,us.length=2->bindArgs F ⟨us,[]⟩=pure (z.zip us):=LD.J9 h
theorem KA {F:FuncData}{z:List Str}(h:∀a b c:Value,bindArgs F ⟨[a,b,c],[]⟩=pure (z.zip [a,b,c])):∀us:List Value,us.length=3->bindArgs F ⟨us,[]⟩=pure (z.zip us):=LD.us3 h
theorem Kz {F:FuncData}{z:List Str}(h:∀a b c d:Value,bindArgs F ⟨[a,b,c,d],[]⟩=pure (z.zip [a,b,c,d])):∀us:List Value,us.length=4->bindArgs F ⟨us,[]⟩=pure (z.zip us):=LD.us4 h
theorem cC {h:Heap}(x:Str)(st:Stmt)(f c:Addr)(pm:Str)(t:Tok)(X:K.In h)(G:h.Ns mainGlobals mg)(a:PySem.W.nsIn K mainGlobals x=some (some (.ref f)):=by kernel_rfl)(l:K.lookup f=some ⟨.type "function",none,.func (PySem.W.fnOf x x (fT st) (dq st) (aS st) .none .none .none (.str pm t) none (.ref c) .none),#[]⟩:=by kernel_rfl)(e:PySem.W.codeIn K (.ref c) x=true:=by kernel_rfl)(k:PySem.W.keepIn K (.ref f)=true:=by kernel_rfl):∃f fd,mg x=some (.ref f)/\Fu K x st f fd:=LD.Jv X G a l e k
theorem cD {k i j:Nat}{b:Call->GS}{ns:List Str}{st:Stmt}{x:Str}{fa:Fa}{f:Addr}{fd:FuncData}(F:oX K x x st f fd)(p:cA fa P w K mg base ns x st b)(sc:gP ns (ns.take i) (aS st))(hb:∀(kV doc pm:Value) (an:Option Addr) (cdv ct:Value) (us:List Value),us.length=(ns.take i).length->bindArgs (PySem.W.fnOf x x (fT st) (dq st) (aS st) .none kV doc pm an cdv ct) ⟨us,[]⟩=pure ((ns.take i).zip us):=by intro _ _ _ _ _ _;first|exact KD fun _=>rfl|exact KC fun _ _=>rfl|exact KA fun _ _ _=>rfl|exact Kz fun _ _ _ _=>rfl)(hf:fa k=some f:=by exact rfl)(h1:i=(ns.take i).length:=by exact rfl)(h2:j=ns.length:=by exact rfl):ua fa P w K mg base k ⟨i,j,b⟩:=⟨f,fd,ns.take i,ns,st,x,x,hf,F,F.binds hb,sc,h1,h2,@p _⟩
set_option maxHeartbeats 0 in
theorem ER (F0:Fu K "is_between" jR f0 fd0)(F1:Fu K "is_word" mr f1 fd1)(F2:Fu K "is_place" lK f2 fd2)(F3:Fu K "is_cost" mz f3 fd3)(F4:Fu K "is_tuple_of" jf f4 fd4)(F5:Fu K "is_table" jx f5 fd5)(F6:Fu K "is_double_table" eL f6 fd6)(F7:Fu K "is_turn" mv f7 fd7)(F8:Fu K "is_join" mx f8 fd8)(F9:Fu K "is_move" mw f9 fd9)(F10:Fu K "is_put" nr f10 fd10)(F11:Fu K "is_deed" my f11 fd11)(F12:Fu K "is_machine" hG f12 fd12)(F13:Fu K "need_machine" iy f13 fd13)(F15:Fu K "beginnings" hJ f15 fd15)(F16:Fu K "is_deed_number" gU f16 fd16)(F17:Fu K "need_numbers" ix f17 fd17)(F18:Fu K "need_row" lJ f18 fd18)(F20:Fu K "turned" nh f20 fd20)(F21:Fu K "joined" nq f21 fd21)(F22:Fu K "moved" pw f22 fd22)(F23:Fu K "put_in" ni f23 fd23)(F24:Fu K "done" qT f24 fd24)(F25:Fu K "all_standing" iz f25 fd25)(F46:Fu K "ends_of" jX f46 fd46)(F27:Fu K "behaviour" kn f27 fd27)(F48:Fu K "parted" nj f48 fd48)(F28:Fu K "_law_spread" jg f28 fd28)(F29:Fu K "_law_open" ks f29 fd29)(F30:Fu K "_law_anew" ky f30 fd30)(F31:Fu K "_law_take" kr f31 fd31)(F64:Fu K "_law_sign_but" fC f64 fd64)(F65:Fu K "_law_any_sign" ig f65 fd65)(F66:Fu K "_law_signed" ji f66 fd66)(F67:Fu K "_law_is_whole" ie f67 fd67)(F40:Fu K "_law_same" iA f40 fd40)(F32:Fu K "_law_tab" fS f32 fd32)(F33:Fu K "_law_deed" iE f33 fd33)(F34:Fu K "_law_machine" iD f34 fd34)(F35:Fu K "_law_row" jy f35 fd35)(F68:Fu K "_law_is_in" jS f68 fd68)(F69:Fu K "_law_numbers" fY f69 fd69)(F70:Fu K "_law_is_deed" fZ f70 fd70)(F71:Fu K "_law_is_machine" eO f71 fd71)(F90:Fu K "_law_row_due" iB f90 fd90)(F72:Fu K "_law_bent" ku f72 fd72)(F75:Fu K "_law_refusal" iC f75 fd75)(F94:Fu K "_law_told" ko f94 fd94)(F95:Fu K "_law_due" lL f95 fd95)(F96:Fu K "_law_spoilt" jh f96 fd96)(F97:Fu K "law" ux f97 fd97)(T:Txt K w mg (rS [(0,f0),(1,f1),(2,f2),(3,f3),(4,f4),(5,f5),(6,f6),(7,f7),(8,f8),(9,f9),(10,f10),(11,f11),(12,f12),(13,f13),(15,f15),(16,f16),(17,f17),(18,f18),(20,f20),(21,f21),(22,f22),(23,f23),(24,f24),(25,f25),(46,f46),(27,f27),(48,f48),(28,f28),(29,f29),(30,f30),(31,f31),(64,f64),(65,f65),(66,f66),(67,f67),(40,f40),(32,f32),(33,f33),(34,f34),(35,f35),(68,f68),(69,f69),(70,f70),(71,f71),(90,f90),(72,f72),(75,f75),(94,f94),(95,f95),(96,f96),(97,f97)])):∀f d,Pg f=some d->ua (rS [(0,f0),(1,f1),(2,f2),(3,f3),(4,f4),(5,f5),(6,f6),(7,f7),(8,f8),(9,f9),(10,f10),(11,f11),(12,f12),(13,f13),(15,f15),(16,f16),(17,f17),(18,f18),(20,f20),(21,f21),(22,f22),(23,f23),(24,f24),(25,f25),(46,f46),(27,f27),(48,f48),(28,f28),(29,f29),(30,f30),(31,f31),(64,f64),(65,f65),(66,f66),(67,f67),(40,f40),(32,f32),(33,f33),(34,f34),(35,f35),(68,f68),(69,f69),(70,f70),(71,f71),(90,f90),(72,f72),(75,f75),(94,f94),(95,f95),(96,f96),(97,f97)]) P w K mg base f d:=fun f d e=>by
 match f,e with
 |0,e=>cases e;exact cD F0 (uW T) (cz Ks)
 |1,e=>cases e;exact cD F1 (zv T) (cz Ho)
 |2,e=>cases e;exact cD F2 (xm T) (cz nd2)
 |3,e=>cases e;exact cD F3 (zA T) (cz CN)
 |4,e=>cases e;exact cD F4 (tD T) (cz nd4)
 |5,e=>cases e;exact cD F5 (xl T) (cz Ho)
 |6,e=>cases e;exact cD F6 (oO T) (cz Ho)
 |7,e=>cases e;exact cD F7 (zw T) (cz Kr)
 |8,e=>cases e;exact cD F8 (zy T) (cz Kq)
 |9,e=>cases e;exact cD F9 (zx T) (cz Kp)
 |10,e=>cases e;exact cD F10 (Br T) (cz Hn)
 |11,e=>cases e;exact cD F11 (zz T) (cz BK)
 |12,e=>cases e;exact cD F12 (uV T) (cz Hm)
 |13,e=>cases e;exact cD F13 (rh T) (cz CN)
 |14,e=>cases e
 |15,e=>cases e;exact cD F15 (uX T) (cz ve)
 |16,e=>cases e;exact cD F16 (pF T) (cz Lz)
 |17,e=>cases e;exact cD F17 (rg T) (cz Hk)
 |18,e=>cases e;exact cD F18 (xk T) (cz BJ)
 |19,e=>cases e
 |20,e=>cases e;exact cD F20 (Bn T) (cz Hj)
 |21,e=>cases e;exact cD F21 (Bq T) (cz Hi)
 |22,e=>cases e;exact cD F22 (D6 T) (cz Hh)
 |23,e=>cases e;exact cD F23 (Bo T) (cz Hg)
 |24,e=>cases e;exact cD F24 (Gn T) (cz BI)
 |25,e=>cases e;exact cD F25 (rj T) (cz BH)
 |26,e=>cases e
 |27,e=>cases e;exact cD F27 (vI T) (cz BJ)
 |28,e=>cases e;exact cD F28 (tG T) (cz rG)
 |29,e=>cases e;exact cD F29 (vM T) (cz BG)
 |30,e=>cases e;exact cD F30 (vP T) (cz Hf)
 |31,e=>cases e;exact cD F31 (vK T) (cz rE)
 |32,e=>cases e;exact cD F32 (xn T) (cz vd)
 |33,e=>cases e;exact cD F33 (vN T) (cz vc)
 |34,e=>cases e;exact cD F34 (rq T) (cz nM)
 |35,e=>cases e;exact cD F35 (xo T) (cz vb)
 |36,e=>cases e
 |37,e=>cases e
 |38,e=>cases e
 |39,e=>cases e
 |40,e=>cases e;exact cD F40 (vL T) (cz Lw)
 |41,e=>cases e
 |42,e=>cases e
 |43,e=>cases e
 |44,e=>cases e
 |45,e=>cases e
 |46,e=>cases e;exact cD F46 (zB T) (cz BJ)
 |47,e=>cases e
 |48,e=>cases e;exact cD F48 (Bp T) (cz xJ)
 |49,e=>cases e
 |50,e=>cases e
 |51,e=>cases e
 |52,e=>cases e
 |53,e=>cases e
 |54,e=>cases e
 |55,e=>cases e
 |56,e=>cases e
 |57,e=>cases e
 |58,e=>cases e
 |59,e=>cases e
 |60,e=>cases e
 |61,e=>cases e
 |62,e=>cases e
 |63,e=>cases e
 |64,e=>cases e;exact cD F64 (ql T) (cz xI)
 |65,e=>cases e;exact cD F65 (qo T) (cz Hf)
 |66,e=>cases e;exact cD F66 (tJ T) (cz He)
 |67,e=>cases e;exact cD F67 (qm T) (cz CN)
 |68,e=>cases e;exact cD F68 (uY T) (cz Ks)
 |69,e=>cases e;exact cD F69 (rn T) (cz Lr)
 |70,e=>cases e;exact cD F70 (rA T) (cz Lp)
 |71,e=>cases e;exact cD F71 (oP T) (cz CN)
 |72,e=>cases e;exact cD F72 (vO T) (cz nK)
 |73,e=>cases e
 |74,e=>cases e
 |75,e=>cases e;exact cD F75 (rm T) (cz pI)
 |76,e=>cases e
 |77,e=>cases e
 |78,e=>cases e
 |79,e=>cases e
 |80,e=>cases e
 |81,e=>cases e
 |82,e=>cases e
 |83,e=>cases e
 |84,e=>cases e
 |85,e=>cases e
 |86,e=>cases e
 |87,e=>cases e
 |88,e=>cases e
 |89,e=>cases e
 |90,e=>cases e;exact cD F90 (rk T) (cz Hd)
 |91,e=>cases e
 |92,e=>cases e
 |93,e=>cases e
 |94,e=>cases e;exact cD F94 (vJ T) (cz xH)
 |95,e=>cases e;exact cD F95 (xp T) (cz BE)
 |96,e=>cases e;exact cD F96 (tH T) (cz BD)
 |97,e=>cases e;exact cD F97 (CI T) (cz jo)
 |k+98,e=>cases e
end
end K11
open PySem PySem.W PyProof.Rows K11
set_option maxRecDepth 100000 in
set_option maxHeartbeats 0 in
theorem PySem.Challenge.cw_leastdeeds_k11_what_is_refused_of_two_ro_holds : PySem.Challenge.rw_leastdeeds_k11_what_is_refused_of_two_ro.Holds := by
 w_on;o_law
 refine PySem.W.holds_open (r:=K11.ya) (q:=K11.kq) (loose:=K11.qt) (Xt:=fun s=>PySem.W.xlAt K11.kq [] s&&PySem.W.recOk (PySem.W.RowW.records K11.ya.toRowW) s) (XP:=PySem.W.XL K11.kq []) (Yf:=K11.kH.obs) (Ya:=K11.kH.val) (YP:=K11.kH.says) (N:=10304) K11.Jy K11.kH.of K11.kH.keeps (fun s e=>PySem.W.xl_of s (Bool.and_eq_true_iff.mp e).1) PySem.W.XL.keeps (by rfl) (by rfl) (by rfl) (fun s e=>PySem.W.recFacts_of (Bool.and_eq_true_iff.mp e).2) (by rfl) (by first|assumption|decide +kernel) (by decide +kernel) ⟨rfl,rfl,rfl,rfl,rfl,by decide +kernel⟩ ?hw ?hc
 case hw=>w_witness2
 refine L2.Dh (l:=PySem.Challenge.rw_leastdeeds_k11_what_is_refused_of_two_ro) (n:=63) (k:=44) (x:="script") (CX:=fun w=>LD.iu PySem.Challenge.rw_leastdeeds_k11_what_is_refused_of_two_ro.prog w) (K:=K11.kh) (sp:=fun w=>LD.Cz (K11.kh w.params)) rfl (by decide) rfl ⟨rfl,by decide,by decide,rfl⟩ (fun w h Y=>PySem.W.kIn_of Y) ?F (fun w H a ns hl hO hS=>⟨a,ns,rfl,hS,hO,hl,fun _=>rfl⟩) (fun _ _ _ _ _ z=>let ⟨_,_,_,_,_,_,_,_,_,_,q⟩:=z;q)
 case F=>
  intro w mg fa h KX G hmg
  obtain ⟨f0,fd0,m0,F0⟩:=cC "is_between" jR 223 222 "leastdeeds.wholes" 458 KX G
  obtain ⟨f1,fd1,m1,F1⟩:=cC "is_word" mr 230 229 qC 469 KX G
  obtain ⟨f2,fd2,m2,F2⟩:=cC "is_place" lK 237 236 qC 469 KX G
  obtain ⟨f3,fd3,m3,F3⟩:=cC "is_cost" mz 244 243 qC 469 KX G
  obtain ⟨f4,fd4,m4,F4⟩:=cC "is_tuple_of" jf 251 250 qC 469 KX G
  obtain ⟨f5,fd5,m5,F5⟩:=cC "is_table" jx 256 255 qC 469 KX G
  obtain ⟨f6,fd6,m6,F6⟩:=cC "is_double_table" eL 261 260 qC 469 KX G
  obtain ⟨f7,fd7,m7,F7⟩:=cC "is_turn" mv 268 267 qC 469 KX G
  obtain ⟨f8,fd8,m8,F8⟩:=cC "is_join" mx 275 274 qC 469 KX G
  obtain ⟨f9,fd9,m9,F9⟩:=cC "is_move" mw 282 281 qC 469 KX G
  obtain ⟨f10,fd10,m10,F10⟩:=cC "is_put" nr 289 288 qC 469 KX G
  obtain ⟨f11,fd11,m11,F11⟩:=cC "is_deed" my 297 296 qC 469 KX G
  obtain ⟨f12,fd12,m12,F12⟩:=cC "is_machine" hG 302 301 qC 469 KX G
  obtain ⟨f13,fd13,m13,F13⟩:=cC "need_machine" iy 309 308 qC 469 KX G
  obtain ⟨f15,fd15,m15,F15⟩:=cC "beginnings" hJ 314 313 qC 469 KX G
  obtain ⟨f16,fd16,m16,F16⟩:=cC "is_deed_number" gU 321 320 qC 469 KX G
  obtain ⟨f17,fd17,m17,F17⟩:=cC "need_numbers" ix 328 327 qC 469 KX G
  obtain ⟨f18,fd18,m18,F18⟩:=cC "need_row" lJ 335 334 qC 469 KX G
  obtain ⟨f20,fd20,m20,F20⟩:=cC "turned" nh 342 341 qD 640 KX G
  obtain ⟨f21,fd21,m21,F21⟩:=cC "joined" nq 349 348 qD 640 KX G
  obtain ⟨f22,fd22,m22,F22⟩:=cC "moved" pw 356 355 qD 640 KX G
  obtain ⟨f23,fd23,m23,F23⟩:=cC "put_in" ni 363 362 qD 640 KX G
  obtain ⟨f24,fd24,m24,F24⟩:=cC "done" qT 371 370 qD 640 KX G
  obtain ⟨f25,fd25,m25,F25⟩:=cC "all_standing" iz 378 377 qD 640 KX G
  obtain ⟨f46,fd46,m46,F46⟩:=cC "ends_of" jX 383 382 qD 640 KX G
  obtain ⟨f27,fd27,m27,F27⟩:=cC "behaviour" kn 390 389 qD 640 KX G
  obtain ⟨f48,fd48,m48,F48⟩:=cC "parted" nj 397 396 "leastdeeds.alike" 735 KX G
  obtain ⟨f28,fd28,m28,F28⟩:=cC "_law_spread" jg 404 403 "law_leastdeeds_k11_what_is_refused_of_two_ro" 751 KX G
  obtain ⟨f29,fd29,m29,F29⟩:=cC "_law_open" ks 411 410 "law_leastdeeds_k11_what_is_refused_of_two_ro" 751 KX G
  obtain ⟨f30,fd30,m30,F30⟩:=cC "_law_anew" ky 418 417 "law_leastdeeds_k11_what_is_refused_of_two_ro" 751 KX G
  obtain ⟨f31,fd31,m31,F31⟩:=cC "_law_take" kr 425 424 "law_leastdeeds_k11_what_is_refused_of_two_ro" 751 KX G
  obtain ⟨f64,fd64,m64,F64⟩:=cC "_law_sign_but" fC 430 429 "law_leastdeeds_k11_what_is_refused_of_two_ro" 751 KX G
  obtain ⟨f65,fd65,m65,F65⟩:=cC "_law_any_sign" ig 437 436 "law_leastdeeds_k11_what_is_refused_of_two_ro" 751 KX G
  obtain ⟨f66,fd66,m66,F66⟩:=cC "_law_signed" ji 444 443 "law_leastdeeds_k11_what_is_refused_of_two_ro" 751 KX G
  obtain ⟨f67,fd67,m67,F67⟩:=cC "_law_is_whole" ie 451 450 "law_leastdeeds_k11_what_is_refused_of_two_ro" 751 KX G
  obtain ⟨f40,fd40,m40,F40⟩:=cC "_law_same" iA 456 455 "law_leastdeeds_k11_what_is_refused_of_two_ro" 751 KX G
  obtain ⟨f32,fd32,m32,F32⟩:=cC "_law_tab" fS 461 460 "law_leastdeeds_k11_what_is_refused_of_two_ro" 751 KX G
  obtain ⟨f33,fd33,m33,F33⟩:=cC "_law_deed" iE 466 465 "law_leastdeeds_k11_what_is_refused_of_two_ro" 751 KX G
  obtain ⟨f34,fd34,m34,F34⟩:=cC "_law_machine" iD 473 472 "law_leastdeeds_k11_what_is_refused_of_two_ro" 751 KX G
  obtain ⟨f35,fd35,m35,F35⟩:=cC "_law_row" jy 478 477 "law_leastdeeds_k11_what_is_refused_of_two_ro" 751 KX G
  obtain ⟨f68,fd68,m68,F68⟩:=cC "_law_is_in" jS 485 484 "law_leastdeeds_k11_what_is_refused_of_two_ro" 751 KX G
  obtain ⟨f69,fd69,m69,F69⟩:=cC "_law_numbers" fY 490 489 "law_leastdeeds_k11_what_is_refused_of_two_ro" 751 KX G
  obtain ⟨f70,fd70,m70,F70⟩:=cC "_law_is_deed" fZ 495 494 "law_leastdeeds_k11_what_is_refused_of_two_ro" 751 KX G
  obtain ⟨f71,fd71,m71,F71⟩:=cC "_law_is_machine" eO 500 499 "law_leastdeeds_k11_what_is_refused_of_two_ro" 751 KX G
  obtain ⟨f90,fd90,m90,F90⟩:=cC "_law_row_due" iB 507 506 "law_leastdeeds_k11_what_is_refused_of_two_ro" 751 KX G
  obtain ⟨f72,fd72,m72,F72⟩:=cC "_law_bent" ku 514 513 "law_leastdeeds_k11_what_is_refused_of_two_ro" 751 KX G
  obtain ⟨f75,fd75,m75,F75⟩:=cC "_law_refusal" iC 521 520 "law_leastdeeds_k11_what_is_refused_of_two_ro" 751 KX G
  obtain ⟨f94,fd94,m94,F94⟩:=cC "_law_told" ko 528 527 "law_leastdeeds_k11_what_is_refused_of_two_ro" 751 KX G
  obtain ⟨f95,fd95,m95,F95⟩:=cC "_law_due" lL 535 534 "law_leastdeeds_k11_what_is_refused_of_two_ro" 751 KX G
  obtain ⟨f96,fd96,m96,F96⟩:=cC "_law_spoilt" jh 542 541 "law_leastdeeds_k11_what_is_refused_of_two_ro" 751 KX G
  obtain ⟨f97,fd97,m97,F97⟩:=cC "law" ux 549 548 "law_leastdeeds_k11_what_is_refused_of_two_ro" 751 KX G
  have z_ValueError:mg "ValueError"=none:=LD.fo KX G (by kernel_rfl)
  have z_all:mg "all"=none:=LD.fo KX G (by kernel_rfl)
  have z_bool:mg "bool"=none:=LD.fo KX G (by kernel_rfl)
  have z_enumerate:mg "enumerate"=none:=LD.fo KX G (by kernel_rfl)
  have z_int:mg "int"=none:=LD.fo KX G (by kernel_rfl)
  have z_isinstance:mg "isinstance"=none:=LD.fo KX G (by kernel_rfl)
  have z_len:mg "len"=none:=LD.fo KX G (by kernel_rfl)
  have z_list:mg "list"=none:=LD.fo KX G (by kernel_rfl)
  have z_range:mg "range"=none:=LD.fo KX G (by kernel_rfl)
  have z_repr:mg "repr"=none:=LD.fo KX G (by kernel_rfl)
  have z_str:mg "str"=none:=LD.fo KX G (by kernel_rfl)
  have z_tuple:mg "tuple"=none:=LD.fo KX G (by kernel_rfl)
  have z_zip:mg "zip"=none:=LD.fo KX G (by kernel_rfl)
  have c_LEAST_WORDS:∃t,mg "LEAST_WORDS"=some (.int 2 t):=LD.lW (t:=471) KX G (by kernel_rfl)
  have c_LONGEST_ROW:∃t,mg "LONGEST_ROW"=some (.int 40 t):=LD.lW (t:=481) KX G (by kernel_rfl)
  have c_MOST_COST:∃t,mg "MOST_COST"=some (.int 3 t):=LD.lW (t:=479) KX G (by kernel_rfl)
  have c_MOST_DEEDS:∃t,mg "MOST_DEEDS"=some (.int 6 t):=LD.lW (t:=477) KX G (by kernel_rfl)
  have c_MOST_PLACES:∃t,mg "MOST_PLACES"=some (.int 2 t):=LD.lW (t:=475) KX G (by kernel_rfl)
  have c_MOST_WORDS:∃t,mg "MOST_WORDS"=some (.int 4 t):=LD.lW (t:=473) KX G (by kernel_rfl)
  have b20:=LD.cE (x:="turned") (f:=342) KX G (by kernel_rfl)
  have b21:=LD.cE (x:="joined") (f:=349) KX G (by kernel_rfl)
  have b22:=LD.cE (x:="moved") (f:=356) KX G (by kernel_rfl)
  have b23:=LD.cE (x:="put_in") (f:=363) KX G (by kernel_rfl)
  have d_NEW_WORDS:=LD.wz (x:="NEW_WORDS") (P:=w.params) (fa:=K11.rS [(0,f0),(1,f1),(2,f2),(3,f3),(4,f4),(5,f5),(6,f6),(7,f7),(8,f8),(9,f9),(10,f10),(11,f11),(12,f12),(13,f13),(15,f15),(16,f16),(17,f17),(18,f18),(20,f20),(21,f21),(22,f22),(23,f23),(24,f24),(25,f25),(46,f46),(27,f27),(48,f48),(28,f28),(29,f29),(30,f30),(31,f31),(64,f64),(65,f65),(66,f66),(67,f67),(40,f40),(32,f32),(33,f33),(34,f34),(35,f35),(68,f68),(69,f69),(70,f70),(71,f71),(90,f90),(72,f72),(75,f75),(94,f94),(95,f95),(96,f96),(97,f97)]) (fs:=LD.dI) (ad:=364) (es:=#[{hash:=PySem.PyData.keyHash w.params (PySem.Str.ofString "turn"),key:=PySem.Value.str (PySem.Str.ofString "turn") 691,val:=PySem.Value.ref 342},{hash:=PySem.PyData.keyHash w.params (PySem.Str.ofString "join"),key:=PySem.Value.str (PySem.Str.ofString "join") 692,val:=PySem.Value.ref 349},{hash:=PySem.PyData.keyHash w.params (PySem.Str.ofString "move"),key:=PySem.Value.str (PySem.Str.ofString "move") 693,val:=PySem.Value.ref 356},{hash:=PySem.PyData.keyHash w.params (PySem.Str.ofString "put"),key:=PySem.Value.str (PySem.Str.ofString "put") 694,val:=PySem.Value.ref 363}]) (n:=4) KX G (by kernel_rfl) (by kernel_rfl) (by exact LD.iq (LD.iq (LD.iq (LD.iq (LD.zQ))))) (by decide +kernel) (by decide) (by exact LD.gu rfl m20 b20 (LD.gu rfl m21 b21 (LD.gu rfl m22 b22 (LD.gu rfl m23 b23 (.nil)))))
  have b7:=LD.cE (x:="is_turn") (f:=268) KX G (by kernel_rfl)
  have b8:=LD.cE (x:="is_join") (f:=275) KX G (by kernel_rfl)
  have b9:=LD.cE (x:="is_move") (f:=282) KX G (by kernel_rfl)
  have b10:=LD.cE (x:="is_put") (f:=289) KX G (by kernel_rfl)
  have d_SORTS:=LD.wz (x:="SORTS") (P:=w.params) (fa:=K11.rS [(0,f0),(1,f1),(2,f2),(3,f3),(4,f4),(5,f5),(6,f6),(7,f7),(8,f8),(9,f9),(10,f10),(11,f11),(12,f12),(13,f13),(15,f15),(16,f16),(17,f17),(18,f18),(20,f20),(21,f21),(22,f22),(23,f23),(24,f24),(25,f25),(46,f46),(27,f27),(48,f48),(28,f28),(29,f29),(30,f30),(31,f31),(64,f64),(65,f65),(66,f66),(67,f67),(40,f40),(32,f32),(33,f33),(34,f34),(35,f35),(68,f68),(69,f69),(70,f70),(71,f71),(90,f90),(72,f72),(75,f75),(94,f94),(95,f95),(96,f96),(97,f97)]) (fs:=LD.dA) (ad:=290) (es:=#[{hash:=PySem.PyData.keyHash w.params (PySem.Str.ofString "turn"),key:=PySem.Value.str (PySem.Str.ofString "turn") 575,val:=PySem.Value.ref 268},{hash:=PySem.PyData.keyHash w.params (PySem.Str.ofString "join"),key:=PySem.Value.str (PySem.Str.ofString "join") 576,val:=PySem.Value.ref 275},{hash:=PySem.PyData.keyHash w.params (PySem.Str.ofString "move"),key:=PySem.Value.str (PySem.Str.ofString "move") 577,val:=PySem.Value.ref 282},{hash:=PySem.PyData.keyHash w.params (PySem.Str.ofString "put"),key:=PySem.Value.str (PySem.Str.ofString "put") 578,val:=PySem.Value.ref 289}]) (n:=4) KX G (by kernel_rfl) (by kernel_rfl) (by exact LD.iq (LD.iq (LD.iq (LD.iq (LD.zQ))))) (by decide +kernel) (by decide) (by exact LD.gu rfl m7 b7 (LD.gu rfl m8 b8 (LD.gu rfl m9 b9 (LD.gu rfl m10 b10 (.nil)))))
  have i_NoRow:=LD.BZ (fa:=K11.rS [(0,f0),(1,f1),(2,f2),(3,f3),(4,f4),(5,f5),(6,f6),(7,f7),(8,f8),(9,f9),(10,f10),(11,f11),(12,f12),(13,f13),(15,f15),(16,f16),(17,f17),(18,f18),(20,f20),(21,f21),(22,f22),(23,f23),(24,f24),(25,f25),(46,f46),(27,f27),(48,f48),(28,f28),(29,f29),(30,f30),(31,f31),(64,f64),(65,f65),(66,f66),(67,f67),(40,f40),(32,f32),(33,f33),(34,f34),(35,f35),(68,f68),(69,f69),(70,f70),(71,f71),(90,f90),(72,f72),(75,f75),(94,f94),(95,f95),(96,f96),(97,f97)]) (w:=w) (c:=0) (x:="NoRow") (qual:="NoRow.__init__") (y:="place") (z:="no deed's number at place ") (pm:="leastdeeds.errors") (t:=187) (st:=AW) (C:=44) (D:=24) (fI:=41) (cd:=40) KX G (by kernel_rfl) (by kernel_rfl) rfl (by kernel_rfl) (by kernel_rfl) (by kernel_rfl) (by kernel_rfl) ⟨rfl,rfl,rfl,by decide +kernel,rfl,by decide +kernel,by decide +kernel⟩ rfl (fun _ _=>⟨_,rfl⟩) (by decide +kernel) rfl rfl rfl rfl (fun _ _=>rfl) (fun _ _ _ _ _ _ _ _=>rfl)
  have T:=K11.Txt.mk (w:=w) (fa:=K11.rS [(0,f0),(1,f1),(2,f2),(3,f3),(4,f4),(5,f5),(6,f6),(7,f7),(8,f8),(9,f9),(10,f10),(11,f11),(12,f12),(13,f13),(15,f15),(16,f16),(17,f17),(18,f18),(20,f20),(21,f21),(22,f22),(23,f23),(24,f24),(25,f25),(46,f46),(27,f27),(48,f48),(28,f28),(29,f29),(30,f30),(31,f31),(64,f64),(65,f65),(66,f66),(67,f67),(40,f40),(32,f32),(33,f33),(34,f34),(35,f35),(68,f68),(69,f69),(70,f70),(71,f71),(90,f90),(72,f72),(75,f75),(94,f94),(95,f95),(96,f96),(97,f97)]) (z_ValueError) (z_all) (z_bool) (z_enumerate) (z_int) (z_isinstance) (z_len) (z_list) (z_range) (z_repr) (z_str) (z_tuple) (z_zip) (c_LEAST_WORDS) (c_LONGEST_ROW) (c_MOST_COST) (c_MOST_DEEDS) (c_MOST_PLACES) (c_MOST_WORDS) (d_NEW_WORDS) (d_SORTS) (LD.Fb (by kernel_rfl)) (⟨24,LD.cE (x:="DeedError") (f:=24) KX G (by kernel_rfl),rfl⟩) (⟨44,LD.cE (x:="NoRow") (f:=44) KX G (by kernel_rfl),rfl⟩) (⟨63,LD.cE (x:="NoRule") (f:=63) KX G (by kernel_rfl),rfl⟩) (⟨82,LD.cE (x:="NoStep") (f:=82) KX G (by kernel_rfl),rfl⟩) (⟨94,LD.cE (x:="NoMachine") (f:=94) KX G (by kernel_rfl),rfl⟩) (⟨106,LD.cE (x:="TooLong") (f:=106) KX G (by kernel_rfl),rfl⟩) (⟨118,LD.cE (x:="NoWord") (f:=118) KX G (by kernel_rfl),rfl⟩) (⟨130,LD.cE (x:="NoWork") (f:=130) KX G (by kernel_rfl),rfl⟩) (⟨142,LD.cE (x:="NoBound") (f:=142) KX G (by kernel_rfl),rfl⟩) (⟨154,LD.cE (x:="TooMany") (f:=154) KX G (by kernel_rfl),rfl⟩) (⟨166,LD.cE (x:="NoPlace") (f:=166) KX G (by kernel_rfl),rfl⟩) (⟨178,LD.cE (x:="NoDeed") (f:=178) KX G (by kernel_rfl),rfl⟩) (⟨190,LD.cE (x:="Nothing") (f:=190) KX G (by kernel_rfl),rfl⟩) (⟨202,LD.cE (x:="NoText") (f:=202) KX G (by kernel_rfl),rfl⟩) (⟨214,LD.cE (x:="NoLine") (f:=214) KX G (by kernel_rfl),rfl⟩) (⟨94,LD.cE (x:="NoMachine") (f:=94) KX G (by kernel_rfl),rfl,by kernel_rfl⟩) (⟨106,LD.cE (x:="TooLong") (f:=106) KX G (by kernel_rfl),rfl,by kernel_rfl⟩) (i_NoRow) (LD.yE (by kernel_rfl)) (LD.yE (by kernel_rfl)) (LD.mm rfl m0) (LD.mm rfl m1) (LD.mm rfl m2) (LD.mm rfl m3) (LD.mm rfl m4) (LD.mm rfl m5) (LD.mm rfl m6) (LD.mm rfl m11) (LD.mm rfl m12) (LD.mm rfl m13) (LD.mm rfl m15) (LD.mm rfl m16) (LD.mm rfl m17) (LD.mm rfl m18) (LD.mm rfl m24) (LD.mm rfl m25) (LD.mm rfl m27) (LD.mm rfl m28) (LD.mm rfl m29) (LD.mm rfl m30) (LD.mm rfl m31) (LD.mm rfl m32) (LD.mm rfl m33) (LD.mm rfl m34) (LD.mm rfl m35) (LD.mm rfl m40) (LD.mm rfl m46) (LD.mm rfl m48) (LD.mm rfl m64) (LD.mm rfl m65) (LD.mm rfl m66) (LD.mm rfl m67) (LD.mm rfl m68) (LD.mm rfl m69) (LD.mm rfl m70) (LD.mm rfl m71) (LD.mm rfl m72) (LD.mm rfl m75) (LD.mm rfl m90) (LD.mm rfl m94) (LD.mm rfl m95) (LD.mm rfl m96)
  have e:=hmg.symm.trans m97
  cases e
  exact ⟨fd97,fun s v=>by
   obtain ⟨oc,od,kV,doc,pm,an,cdv,ct,osl,rfl,lk,hcd⟩:=F97.ex
   exact .of_eq rfl,fun base _ _=>LD.Hw (n:=39) (f:=97) (K11.ER F0 F1 F2 F3 F4 F5 F6 F7 F8 F9 F10 F11 F12 F13 F15 F16 F17 F18 F20 F21 F22 F23 F24 F25 F46 F27 F48 F28 F29 F30 F31 F64 F65 F66 F67 F40 F32 F33 F34 F35 F68 F69 F70 F71 F90 F72 F75 F94 F95 F96 F97 T) K11.BR rfl F97 (K11.cz (ps:=["script"]) K11.jo) rfl fun c n a b d s H E C hr=>K11.CI T c n a b d s H E C hr⟩
