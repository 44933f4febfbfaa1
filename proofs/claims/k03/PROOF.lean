import PyProof.Rows.All
import Wide.All
import OpenK.AllK
import Wide.FinOn
import Lean
import PyProof.EqAt
import PyProof.EqKinds
import PyProof.TupleCall
import PyProof.StrOps
import PyProof.MeetsStr
import PyProof.StrLawsJoin
import PySem.Challenge.RW_leastdeeds_k03_rows_and_costs
set_option Elab.async false
set_option linter.all false
set_option maxRecDepth 100000
set_option maxHeartbeats 0
noncomputable section
abbrev tqa:=@PySem.wpAny_bind
abbrev tqb:=@PySem.wpAny_pure
abbrev tqc:=@PySem.Heap.get?_push_of_some
abbrev tqd:=@PySem.Heap.lt_size
abbrev tqe:=@PySem.Heap.get?_push_size
abbrev tqf:=@PySem.wpAny_field
abbrev tqg:=@Nat.le_refl
abbrev tqh:=@Nat.le_trans
abbrev tqi:=@Nat.lt_of_lt_of_le
abbrev tqj:=@Bool.false_ne_true
abbrev tqk:=@Nat.ne_of_lt
abbrev tql:=@PySem.Heap.get?_update_other
abbrev tqm:=@PySem.Heap.get?_update_self
abbrev tqn:=@Nat.lt_irrefl
abbrev tqo:=@PySem.wpAny_holding
abbrev tqp:=@PySem.wpAny_truthy_bool
abbrev tqq:=@Nat.le_of_ble_eq_true
namespace HD
open PySem PySem.W
def zki (tb:String->Option Builtin)(p:Program)(w:World)(n0:Nat)(ann:Option Value):Nat->SharedT->Thread->Option SharedT
 |0,_,_=>none
 | n + 1, s, t => match through t with
   |true=>some s
   | false => match stepOk n0 ann t with
     |false=>none
     | true => match stepT (denote tb) p w s t with
       |some (s',t')=>zki tb p w n0 ann n s' t'
       |none=>none
theorem zqd {tb:String->Option Builtin}{p:Program}{w:World}{n0:Nat}{ann:Option Value}:∀{n:Nat}{s s':SharedT}{t:Thread},zki tb p w n0 ann n s t=some s'->topRun tb p w n0 ann n s.abs t=some s'.abs
 |0,_,_,_,h=>by cases h
 | n + 1, s, s', t, h => by
   unfold zki at h
   unfold topRun
   cases he:through t with
   |true=>rw [he] at h;cases h;rfl
   | false =>
     rw [he] at h
     cases hk:stepOk n0 ann t with
     |false=>rw [hk] at h;cases h
     | true =>
       rw [hk] at h
       cases hs:stepT (denote tb) p w s t with
       |none=>rw [hs] at h;cases h
       |some r=>obtain ⟨s2,t2⟩:=r;rw [hs] at h;rw [stepT_spec hs];exact zqd h
def treeOf:List Obj->Nat->BT->BT
 |[],_,t=>t
 |o::r,n,t=>treeOf r (n+1) (t.ins n o)
def zws (P:Params)(os:OsState):SharedT:=⟨treeOf (boot_heap P).objs.toList 0 .nil,(boot_heap P).objs.toList.length,(boot_heap P).life,#[],boot_drawn,boot_toks,os⟩
theorem boot_abs (P:Params)(os:OsState):(zws P os).abs=⟨boot_heap P,#[],boot_drawn,boot_toks,os⟩:=by kernel_rfl
def zwa (p q:Program)(loose:List Str)(Xt:Shared->Bool)(g0:Bool)(h0:Heap){α:Type}(Yf:Shared->α)(s:Shared):=
 ((staticsOk (importedModules p.main.body) h0 s.heap&&namesBound p s.heap&&gensDone s&&laidKept h0 s.heap),openSeen q loose (importedModules p.main.body) Xt g0 s,Yf s)
end HD
namespace HD
open PySem PySem.W
def goT (tb:String->Option Builtin)(p:Program)(w:World)(n0:Nat)(ann:Option Value):Nat->SharedT->Thread->Option (SharedT×Thread)
 |0,s,t=>some (s,t)
 | n + 1, s, t => match through t with
   |true=>none
   | false => match stepOk n0 ann t with
     |false=>none
     | true => match stepT (denote tb) p w s t with
       |some (s',t')=>goT tb p w n0 ann n s' t'
       |none=>none
def zlx (tb:String->Option Builtin)(p:Program)(w:World)(n0:Nat)(ann:Option Value):Nat->SharedT->Thread->Option (Flow×SharedT×Code×Pos)
 |0,_,_=>none
 | n + 1, s, t => match endAt 1 t with
   |some f=>some (f,s,t.code,t.pos)
   | none => match stepOk n0 ann t with
     |false=>none
     | true => match stepT (denote tb) p w s t with
       |some (s',t')=>zlx tb p w n0 ann n s' t'
       |none=>none
section
variable {tb:String->Option Builtin}{p:Program}{w:World}{n0:Nat}{ann:Option Value}
theorem zys:∀{n:Nat}{s s':SharedT}{t t':Thread},goT tb p w n0 ann n s t=some (s',t')->topGo tb p w n0 ann n s.abs t=some (s'.abs,t')
 |0,s,s',t,t',h=>by cases h;rfl
 | n + 1, s, s', t, t', h => by
   unfold goT at h
   unfold topGo
   cases he:through t with
   |true=>rw [he] at h;cases h
   | false =>
     rw [he] at h
     cases hk:stepOk n0 ann t with
     |false=>rw [hk] at h;cases h
     | true =>
       rw [hk] at h
       cases hs:stepT (denote tb) p w s t with
       |none=>rw [hs] at h;cases h
       |some q=>obtain ⟨s2,t2⟩:=q;rw [hs] at h;rw [stepT_spec hs];exact zys h
theorem zo9:∀{n:Nat}{s s':SharedT}{t:Thread}{f:Flow}{c:Code}{q:Pos},zlx tb p w n0 ann n s t=some (f,s',c,q)->segRun tb p w n0 ann 1 n s.abs t=some (f,s'.abs,c,q)
 |0,_,_,_,_,_,_,h=>by cases h
 | n + 1, s, s', t, f, c, q, h => by
   unfold zlx at h
   unfold segRun
   cases he:endAt 1 t with
   |some g=>rw [he] at h;cases h;rfl
   | none =>
     rw [he] at h
     cases hk:stepOk n0 ann t with
     |false=>rw [hk] at h;cases h
     | true =>
       rw [hk] at h
       cases hs:stepT (denote tb) p w s t with
       |none=>rw [hs] at h;cases h
       |some x=>obtain ⟨s2,t2⟩:=x;rw [hs] at h;rw [stepT_spec hs];exact zo9 h
theorem z16 {n1 n2 n3 N:Nat}{s s' s2:SharedT}{env:Env}{c:Code}{pos p' p2 q:Pos}{t:Thread}{b:List Stmt}{J J2:Nat}{α:Type}{f:Shared->α}{a:α}
 (h1:(goT tb p w n0 ann n1 s t).map (·.2)=some ⟨denote tb (.body b env),c,pos,[topFrame q]⟩) (h0:endAt 1 (blockOf b env c pos [topFrame q])=some .next)
 (h2:((goT tb p w n0 ann n1 s t).bind fun x=>zlx tb p w n0 ann n2 x.1 (piecesOf (b.take J) env c pos [topFrame q]))=some (.next,s',c,p'))
 (h3:zlx tb p w n0 ann n3 s' (piecesOf ((b.drop J).take J2) env c p' [topFrame q])=some (.next,s2,c,p2))
 (h4:(zki tb p w n0 ann N s2 (restOf ((b.drop J).drop J2) env c p2 [topFrame q])).map (fun s=>f s.abs)=some a):(topRun tb p w n0 ann (n1+(1+(n2+(n3+N)))) s.abs t).map f=some a:=by
 obtain ⟨⟨s1,t1⟩,e1,e2⟩:=Option.map_eq_some_iff.mp h1
 have e2:t1=⟨denote tb (.body b env),c,pos,[topFrame q]⟩:=e2
 subst e2
 rw [e1] at h2
 have h2:zlx tb p w n0 ann n2 s1 (piecesOf (b.take J) env c pos [topFrame q])=some (.next,s',c,p'):=h2
 obtain ⟨r,e3,e4⟩:=Option.map_eq_some_iff.mp h4
 have k4:=piece_app (zo9 h3) (zqd e3)
 rw [List.take_append_drop] at k4
 have k3:=piece_app (zo9 h2) k4
 rw [List.take_append_drop] at k3
 have hb:segRun tb p w n0 ann 1 1 s1.abs (blockOf b env c pos [topFrame q])=some (.next,s1.abs,c,pos):=by
  show (match endAt 1 (blockOf b env c pos [topFrame q]) with|some f=>some (f,s1.abs,c,pos)|none=>_)=_
  rw [h0]
 have k2:=piece_block hb k3
 rw [go_top (zys e1) k2]
 exact congrArg some e4
end
theorem zud {p q:Program}{loose:List Str}{Xt:Shared->Bool}{α:Type}{Yf:Shared->α}{Ya:World->α}{N:Nat}{g0:Bool}{m0:Nat}{ann:Option Value}
 (open_:∀w:World,(fencedOpening treeTable p w N).map (fun s=>(s.heap,s.gens,s.drawn,s.toks))=some (boot_heap w.params,Array.mk [],boot_drawn,boot_toks))
 (size:∀w:World,((boot_heap w.params).isNs mainGlobals&&(Array.mk ([]:List GenState)).size==0,(boot_heap w.params).objs.size,(boot_heap w.params).nsMap mainGlobals "__annotations__")=(true,m0,ann))
 (run:∀(w:World) (os:OsState),(topRun treeTable p w m0 ann N (zws w.params os).abs (topStub p)).map (zwa p q loose Xt g0 (boot_heap w.params) Yf)=some (true,openGood q loose,Ya w)):LeftO p q loose Xt Yf Ya N g0:=fun w=>by
 obtain ⟨⟨h,gs,d,k,os⟩,e,e'⟩:=Option.map_eq_some_iff.mp (open_ w)
 obtain ⟨rfl,rfl,rfl,rfl⟩:h=boot_heap w.params/\gs=Array.mk []/\d=boot_drawn/\k=boot_toks:=by simpa using e'
 obtain ⟨z1,z2,z3⟩:_/\_/\_:=by simpa only [Prod.mk.injEq] using size w
 obtain ⟨s1,r,l⟩:=Option.map_eq_some_iff.mp (run w os)
 obtain ⟨l1,l2,l3⟩:_/\_/\_:=by simpa only [zwa,Prod.mk.injEq] using l
 rw [boot_abs] at r
 have t:topFrom treeTable p w N ⟨boot_heap w.params,Array.mk [],boot_drawn,boot_toks,os⟩=some s1:=by
  unfold topFrom
  dsimp only
  rw [z1,z2,z3,r]
  show (match staticsOk (importedModules p.main.body) (boot_heap w.params) s1.heap&&namesBound p s1.heap&&gensDone s1&&laidKept (boot_heap w.params) s1.heap with|true=>_|false=>_)=_
  rw [l1]
 unfold openEnds
 rw [e]
 show (topFrom treeTable p w N _).map _=_
 rw [t]
 exact congrArg some (Prod.ext l2 l3)
end HD
namespace K03
open PySem
abbrev eN (P:Params)(x:Str)(n:Nat)(v:Value):DictEntry:=⟨PyData.keyHash P x,.str x n,v⟩
abbrev mNm:String:="law_leastdeeds_k03_rows_and_costs"
def kInC (s:Stmt):Stmt:=match s with
 |.ClassDef _ _ _ (b::_) _ _ _ _ _ _ _=>b
 |_=>s
def zim (i:Nat):Stmt:=PySem.Challenge.pw_leastdeeds_k03_rows_and_costs.main.body.getD i (.Pass ⟨0,0,0,0⟩)
def zrm (s:Stmt):Arguments:=match s with
 |.FunctionDef _ a _ _ _ _ _ _ _ _=>a
 |_=>⟨[],[],none,[],[],none,[]⟩
def zrl (s:Stmt):List Stmt:=match s with
 |.FunctionDef _ _ b _ _ _ _ _ _ _=>b
 |_=>[]
def zop (s:Stmt):Scope:=match s with
 |.FunctionDef _ _ _ _ _ _ sc _ _ _=>sc
 |_=>{kind:=.function,names:=[],isGenerator:=false,isCoroutine:=false}
def o1:Obj:={cls:=.type "tuple" ,data:=.seq #[]}
def o2 (a:String)(b:Nat)(c:Int)(d:Nat)(e:Int):Obj:={cls:=.type "code" ,data:=.fields #[.str (Str.ofString a) b ,.str (Str.ofString a) (b+1) ,.str ("/claim/cut.py") (b+2) ,.int c 0 ,.int 0 0 ,.int 0 0 ,.int 0 0 ,.int 0 0 ,.ref d ,.bool false ,.int 181 0 ,.ref (d+1) ,.none ,.none ,.none ,.none ,.int e 0 ,.int c 0 ,.str ("/claim/cut.py") (b+4)]}
def o3 (a:Nat)(b:Nat)(c:String)(d:Nat):Obj:={cls:=.type "frame" ,slots:=#[some (.ref a) ,some (.ref 3) ,some (.ref b) ,none ,some (.str (Str.ofString c) d) ,none ,some (.ref 0)]}
def o4:Obj:={cls:=.type "builtin_function_or_method" ,data:=.fields #[.builtin "type.__prepare__" ,.type "type"]}
def o5 (P:Params)(a:Nat)(b:String)(c:Int)(d:Nat):Obj:={cls:=.type "dict" ,data:=.dict #[{hash:=PyData.keyHash P ("__module__") ,key:=.str ("__module__") a ,val:=.str ("leastdeeds.errors") 187} ,{hash:=PyData.keyHash P ("__qualname__") ,key:=.str ("__qualname__") (a+2) ,val:=.str (Str.ofString b) (a+1)} ,{hash:=PyData.keyHash P ("__firstlineno__") ,key:=.str ("__firstlineno__") (a+4) ,val:=.int c (a+3)} ,{hash:=PyData.keyHash P ("__static_attributes__") ,key:=.str ("__static_attributes__") (a+5) ,val:=.ref d}] 4}
def o6:Obj:={cls:=.none ,data:=.fields #[]}
def o7 (P:Params)(a:Nat)(b:Int)(c:String)(d:Nat)(e:Nat)(f:String)(g:Nat)(h:Nat):Obj:={cls:=.type "dict" ,data:=.dict #[{hash:=PyData.keyHash P ("__module__") ,key:=.str ("__module__") a ,val:=.str ("leastdeeds.errors") 187} ,{hash:=PyData.keyHash P ("__firstlineno__") ,key:=.str ("__firstlineno__") (a+4) ,val:=.int b (a+3)} ,{hash:=PyData.keyHash P (Str.ofString c) ,key:=.str (Str.ofString c) d ,val:=.ref e} ,{hash:=PyData.keyHash P (Str.ofString f) ,key:=.str (Str.ofString f) (d+2) ,val:=.ref g} ,{hash:=PyData.keyHash P ("__doc__") ,key:=.str ("__doc__") (d+3) ,val:=.none}] h}
def o8 (a:Nat):Obj:={cls:=.type "super" ,data:=.fields #[.ref a ,.ref a ,.ref a]}
def o9 (a:Nat):Obj:={cls:=.type "builtin_function_or_method" ,data:=.fields #[.builtin "object.__init_subclass__" ,.ref a]}
def o10:Obj:={cls:=.type "tuple" ,data:=.seq #[.ref 24]}
def o11 (P:Params)(a:Nat)(b:String)(c:Int)(d:Nat):Obj:={cls:=.type "dict" ,data:=.dict #[{hash:=PyData.keyHash P ("__module__") ,key:=.str ("__module__") a ,val:=.str ("leastdeeds.errors") 187} ,{hash:=PyData.keyHash P ("__qualname__") ,key:=.str ("__qualname__") (a+2) ,val:=.str (Str.ofString b) (a+1)} ,{hash:=PyData.keyHash P ("__firstlineno__") ,key:=.str ("__firstlineno__") (a+4) ,val:=.int c (a+3)} ,{hash:=PyData.keyHash P ("__init__") ,key:=.str ("__init__") (a+12) ,val:=.ref d} ,{hash:=PyData.keyHash P ("__static_attributes__") ,key:=.str ("__static_attributes__") (a+14) ,val:=.ref (d+1)}] 5}
def o12 (a:Int)(b:Nat):Obj:={cls:=.none ,data:=.fields #[.int a 0 ,.int 4 0 ,.ref b]}
def o13 (a:Nat)(b:String):Obj:={cls:=.type "tuple" ,data:=.seq #[.str ("self") a ,.str (Str.ofString b) (a+1)]}
def o14 (a:String)(b:Nat):Obj:={cls:=.none ,data:=.func {name:="__init__" ,qualname:=Str.ofString a ,params:=zrm (kInC (zim b)) ,body:=PySem.FuncBody.stmts (zrl (kInC (zim b))) ,scope:=zop (kInC (zim b)) ,globals:=0 ,closure:=[] ,defaults:=.none ,kwdefaults:=.none ,pyModule:=.none ,code:=.none}}
def o15 (a:String)(b:Nat)(c:String)(d:Int)(e:Int)(f:Nat)(g:Int)(h:Nat):Obj:={cls:=.type "code" ,data:=.fields #[.str (Str.ofString a) b ,.str (Str.ofString c) (b+1) ,.str ("/claim/cut.py") (b+2) ,.int d 0 ,.int e 0 ,.int 0 0 ,.int 0 0 ,.int 3 0 ,.ref f ,.bool true ,.int 181 0 ,.ref (f+1) ,.none ,.ref (f+2) ,.ref (f+3) ,.ref (f+4) ,.int g 0 ,.int d 0 ,.str ("/claim/cut.py") h]}
def o16 (a:String)(b:Nat)(c:Nat):Obj:={cls:=.type "function" ,data:=.func {name:="__init__" ,qualname:=Str.ofString a ,params:=zrm (kInC (zim b)) ,body:=PySem.FuncBody.stmts (zrl (kInC (zim b))) ,scope:=zop (kInC (zim b)) ,globals:=3 ,closure:=[] ,defaults:=.none ,kwdefaults:=.none ,pyModule:=.str ("leastdeeds.errors") 187 ,code:=.ref c}}
def o17 (a:String)(b:Nat):Obj:={cls:=.type "tuple" ,data:=.seq #[.str (Str.ofString a) b]}
def o18 (a:String)(b:Nat)(c:Nat)(d:Nat)(e:Nat):Obj:={cls:=.type "type" ,data:=.cls {name:=Str.ofString a ,bases:=[.ref 24] ,mro:=[.ref b ,.ref 24 ,.type "ValueError" ,.type "Exception" ,.type "BaseException" ,.type "object"] ,ns:=c ,qualname:=Str.ofString a} ,slots:=#[some (.ref d) ,none ,some (.str (Str.ofString a) e) ,some (.str (Str.ofString a) (e+8)) ,some (.builtin "ValueError.__new__") ,some (.bool true)]}
def o19 (P:Params)(a:Nat)(b:Int)(c:Nat):Obj:={cls:=.type "dict" ,data:=.dict #[{hash:=PyData.keyHash P ("__module__") ,key:=.str ("__module__") a ,val:=.str ("leastdeeds.errors") 187} ,{hash:=PyData.keyHash P ("__firstlineno__") ,key:=.str ("__firstlineno__") (a+4) ,val:=.int b (a+3)} ,{hash:=PyData.keyHash P ("__static_attributes__") ,key:=.str ("__static_attributes__") (a+5) ,val:=.ref c} ,{hash:=PyData.keyHash P ("__doc__") ,key:=.str ("__doc__") (a+6) ,val:=.none}] 2}
def o20 (a:String)(b:Nat)(c:String)(d:Nat)(e:Nat):Obj:={cls:=.type "function" ,data:=.func {name:=Str.ofString a ,qualname:=Str.ofString a ,params:=zrm (zim b) ,body:=PySem.FuncBody.stmts (zrl (zim b)) ,scope:=zop (zim b) ,globals:=3 ,closure:=[] ,defaults:=.none ,kwdefaults:=.none ,pyModule:=.str (Str.ofString c) d ,code:=.ref e}}
def o21:Obj:={cls:=.type "type" ,data:=.cls {name:="DeedError" ,bases:=[.type "ValueError"] ,mro:=[.ref 24 ,.type "ValueError" ,.type "Exception" ,.type "BaseException" ,.type "object"] ,ns:=23 ,qualname:="DeedError" ,subclasses:=[.ref 44 ,.ref 63 ,.ref 82 ,.ref 94 ,.ref 106 ,.ref 118 ,.ref 130 ,.ref 142 ,.ref 154 ,.ref 166 ,.ref 178 ,.ref 190 ,.ref 202 ,.ref 214]} ,slots:=#[some (.ref 15) ,none ,some (.str ("DeedError") 189) ,some (.str ("DeedError") 197) ,some (.builtin "ValueError.__new__") ,some (.bool true)]}
def o22 (a:String)(b:Nat)(c:Int)(d:Int)(e:Nat)(f:Int):Obj:={cls:=.type "code" ,data:=.fields #[.str (Str.ofString a) b ,.str (Str.ofString a) (b+1) ,.str ("/claim/cut.py") (b+2) ,.int c 0 ,.int d 0 ,.int 0 0 ,.int 0 0 ,.int 3 0 ,.ref e ,.bool true ,.int 181 0 ,.ref (e+1) ,.none ,.none ,.none ,.ref (e+2) ,.int f 0 ,.int c 0 ,.str ("/claim/cut.py") (b+4)]}
def kh:Params->PySem.W.Frag:=fun P=>[(2,{cls:=.none,data:=.dict #[]}),
 (3,{cls:=.type "dict",data:=.dict #[eN P "__name__" 165 (.str mNm 648),eN P "__doc__" 166 (.none),eN P "__package__" 167 (.none),eN P "__loader__" 168 (.builtin "__main__.__loader__#opaque"),eN P "__spec__" 169 (.none),eN P "__annotations__" 170 (.ref 6),eN P "__builtins__" 171 (.ref 4),eN P "__file__" 173 (.str "/claim/cut.py" 172),eN P "__cached__" 174 (.none),eN P "DeedError" 206 (.ref 24),eN P "NoRow" 231 (.ref 44),eN P "NoRule" 256 (.ref 63),eN P "NoStep" 281 (.ref 82),eN P "NoMachine" 297 (.ref 94),eN P "TooLong" 313 (.ref 106),eN P "NoWord" 329 (.ref 118),eN P "NoWork" 345 (.ref 130),eN P "NoBound" 361 (.ref 142),eN P "TooMany" 377 (.ref 154),eN P "NoPlace" 393 (.ref 166),eN P "NoDeed" 409 (.ref 178),eN P "Nothing" 425 (.ref 190),eN P "NoText" 441 (.ref 202),eN P "NoLine" 457 (.ref 214),eN P "is_between" 468 (.ref 223),eN P "LEAST_WORDS" 472 (.int 2 471),eN P "MOST_WORDS" 474 (.int 4 473),eN P "MOST_PLACES" 476 (.int 2 475),eN P "MOST_DEEDS" 478 (.int 6 477),eN P "MOST_COST" 480 (.int 3 479),eN P "LONGEST_ROW" 482 (.int 40 481),eN P "is_word" 490 (.ref 230),eN P "is_place" 498 (.ref 237),eN P "is_cost" 505 (.ref 244),eN P "is_tuple_of" 513 (.ref 251),eN P "is_table" 519 (.ref 256),eN P "is_double_table" 525 (.ref 261),eN P "is_turn" 537 (.ref 268),eN P "is_join" 550 (.ref 275),eN P "is_move" 562 (.ref 282),eN P "is_put" 574 (.ref 289),eN P "SORTS" 583 (.ref 290),eN P "is_deed" 594 (.ref 297),eN P "is_machine" 600 (.ref 302),eN P "need_machine" 607 (.ref 309),eN P "is_deed_number" 615 (.ref 316),eN P "need_numbers" 625 (.ref 323),eN P "need_row" 633 (.ref 330),eN P "summed_cost" 639 (.ref 335),eN P "cost" 647 (.ref 342),eN P "_law_spread" 661 (.ref 349),eN P "_law_open" 671 (.ref 356),eN P "_law_anew" 678 (.ref 363),eN P "_law_take" 689 (.ref 370),eN P "_law_sign_but" 695 (.ref 375),eN P "_law_any_sign" 702 (.ref 382),eN P "_law_signed" 711 (.ref 389),eN P "_law_is_whole" 718 (.ref 396),eN P "_law_same" 724 (.ref 401),eN P "_law_tab" 730 (.ref 406),eN P "_law_deed" 736 (.ref 411),eN P "_law_machine" 750 (.ref 418),eN P "_law_row" 756 (.ref 423),eN P "_law_price" 762 (.ref 428),eN P "_law_is_in" 771 (.ref 435),eN P "_law_numbers" 777 (.ref 440),eN P "_law_is_deed" 783 (.ref 445),eN P "_law_is_machine" 789 (.ref 450),eN P "_law_row_due" 799 (.ref 457),eN P "_law_bent" 814 (.ref 464),eN P "_law_refusal" 823 (.ref 471),eN P "_law_told" 835 (.ref 478),eN P "_law_odd_rows" 849 (.ref 485),eN P "law" 864 (.ref 492)] 74}),
 (23,o7 P 196 2 "__static_attributes__" 201 22 "__weakref__" 25 3),
 (24,o21),
 (40,o15 "__init__" 219 "NoRow.__init__" 6 2 35 224 225),
 (41,o16 "NoRow.__init__" 2 40),
 (43,o7 P 214 4 "__init__" 226 41 "__static_attributes__" 42 2),
 (44,o18 "NoRow" 44 43 28 207),
 (62,o7 P 239 9 "__init__" 251 60 "__static_attributes__" 61 2),
 (63,o18 "NoRule" 63 62 47 232),
 (81,o7 P 264 14 "__init__" 276 79 "__static_attributes__" 80 2),
 (82,o18 "NoStep" 82 81 66 257),
 (93,o19 P 289 19 92),
 (94,o18 "NoMachine" 94 93 85 282),
 (105,o19 P 305 21 104),
 (106,o18 "TooLong" 106 105 97 298),
 (117,o19 P 321 23 116),
 (118,o18 "NoWord" 118 117 109 314),
 (129,o19 P 337 25 128),
 (130,o18 "NoWork" 130 129 121 330),
 (141,o19 P 353 27 140),
 (142,o18 "NoBound" 142 141 133 346),
 (153,o19 P 369 29 152),
 (154,o18 "TooMany" 154 153 145 362),
 (165,o19 P 385 31 164),
 (166,o18 "NoPlace" 166 165 157 378),
 (177,o19 P 401 33 176),
 (178,o18 "NoDeed" 178 177 169 394),
 (189,o19 P 417 35 188),
 (190,o18 "Nothing" 190 189 181 410),
 (201,o19 P 433 37 200),
 (202,o18 "NoText" 202 201 193 426),
 (213,o19 P 449 39 212),
 (214,o18 "NoLine" 214 213 205 442),
 (222,o15 "is_between" 460 "is_between" 42 3 217 466 467),
 (223,o20 "is_between" 17 "leastdeeds.wholes" 458 222),
 (229,o15 "is_word" 483 "is_word" 53 2 224 488 489),
 (230,o20 "is_word" 25 "leastdeeds.machines" 469 229),
 (236,o15 "is_place" 491 "is_place" 55 2 231 496 497),
 (237,o20 "is_place" 26 "leastdeeds.machines" 469 236),
 (243,o15 "is_cost" 499 "is_cost" 57 1 238 503 504),
 (244,o20 "is_cost" 27 "leastdeeds.machines" 469 243),
 (250,o15 "is_tuple_of" 506 "is_tuple_of" 59 2 245 511 512),
 (251,o20 "is_tuple_of" 28 "leastdeeds.machines" 469 250),
 (255,o22 "is_table" 514 61 2 252 517),
 (256,o20 "is_table" 29 "leastdeeds.machines" 469 255),
 (260,o22 "is_double_table" 520 63 2 257 523),
 (261,o20 "is_double_table" 30 "leastdeeds.machines" 469 260),
 (267,o15 "is_turn" 526 "is_turn" 65 3 262 535 536),
 (268,o20 "is_turn" 31 "leastdeeds.machines" 469 267),
 (274,o15 "is_join" 538 "is_join" 70 3 269 548 549),
 (275,o20 "is_join" 32 "leastdeeds.machines" 469 274),
 (281,o15 "is_move" 551 "is_move" 77 3 276 560 561),
 (282,o20 "is_move" 33 "leastdeeds.machines" 469 281),
 (288,o15 "is_put" 563 "is_put" 82 3 283 572 573),
 (289,o20 "is_put" 34 "leastdeeds.machines" 469 288),
 (290,{cls:=.type "dict",data:=.dict #[eN P "turn" 575 (.ref 268),eN P "join" 576 (.ref 275),eN P "move" 577 (.ref 282),eN P "put" 578 (.ref 289)] 4}),
 (296,o15 "is_deed" 584 "is_deed" 88 3 291 592 593),
 (297,o20 "is_deed" 36 "leastdeeds.machines" 469 296),
 (301,o22 "is_machine" 595 96 1 298 598),
 (302,o20 "is_machine" 37 "leastdeeds.machines" 469 301),
 (308,o15 "need_machine" 601 "need_machine" 105 1 303 605 606),
 (309,o20 "need_machine" 38 "leastdeeds.machines" 469 308),
 (315,o15 "is_deed_number" 608 "is_deed_number" 108 2 310 613 614),
 (316,o20 "is_deed_number" 39 "leastdeeds.machines" 469 315),
 (322,o15 "need_numbers" 616 "need_numbers" 110 2 317 623 624),
 (323,o20 "need_numbers" 40 "leastdeeds.machines" 469 322),
 (329,o15 "need_row" 626 "need_row" 116 2 324 631 632),
 (330,o20 "need_row" 41 "leastdeeds.machines" 469 329),
 (334,o22 "summed_cost" 634 121 2 331 637),
 (335,o20 "summed_cost" 42 "leastdeeds.machines" 469 334),
 (341,o15 "cost" 640 "cost" 123 2 336 645 646),
 (342,o20 "cost" 43 "leastdeeds.machines" 469 341),
 (348,o15 "_law_spread" 650 "_law_spread" 127 2 343 659 660),
 (349,o20 "_law_spread" 45 mNm 648 348),
 (355,o15 "_law_open" 662 "_law_open" 136 1 350 669 670),
 (356,o20 "_law_open" 46 mNm 648 355),
 (362,o15 "_law_anew" 672 "_law_anew" 141 1 357 676 677),
 (363,o20 "_law_anew" 47 mNm 648 362),
 (369,o15 "_law_take" 679 "_law_take" 144 2 364 687 688),
 (370,o20 "_law_take" 48 mNm 648 369),
 (374,o22 "_law_sign_but" 690 157 2 371 693),
 (375,o20 "_law_sign_but" 49 mNm 648 374),
 (381,o15 "_law_any_sign" 696 "_law_any_sign" 162 1 376 700 701),
 (382,o20 "_law_any_sign" 50 mNm 648 381),
 (388,o15 "_law_signed" 703 "_law_signed" 164 2 383 709 710),
 (389,o20 "_law_signed" 51 mNm 648 388),
 (395,o15 "_law_is_whole" 712 "_law_is_whole" 167 1 390 716 717),
 (396,o20 "_law_is_whole" 52 mNm 648 395),
 (400,o22 "_law_same" 719 169 2 397 722),
 (401,o20 "_law_same" 53 mNm 648 400),
 (405,o22 "_law_tab" 725 183 2 402 728),
 (406,o20 "_law_tab" 54 mNm 648 405),
 (410,o22 "_law_deed" 731 199 3 407 734),
 (411,o20 "_law_deed" 55 mNm 648 410),
 (417,o15 "_law_machine" 737 "_law_machine" 211 4 412 748 749),
 (418,o20 "_law_machine" 56 mNm 648 417),
 (422,o22 "_law_row" 751 222 3 419 754),
 (423,o20 "_law_row" 57 mNm 648 422),
 (427,o22 "_law_price" 757 229 2 424 760),
 (428,o20 "_law_price" 58 mNm 648 427),
 (434,o15 "_law_is_in" 763 "_law_is_in" 231 3 429 769 770),
 (435,o20 "_law_is_in" 59 mNm 648 434),
 (439,o22 "_law_numbers" 772 233 4 436 775),
 (440,o20 "_law_numbers" 60 mNm 648 439),
 (444,o22 "_law_is_deed" 778 237 3 441 781),
 (445,o20 "_law_is_deed" 61 mNm 648 444),
 (449,o22 "_law_is_machine" 784 255 1 446 787),
 (450,o20 "_law_is_machine" 62 mNm 648 449),
 (456,o15 "_law_row_due" 790 "_law_row_due" 261 2 451 797 798),
 (457,o20 "_law_row_due" 63 mNm 648 456),
 (463,o15 "_law_bent" 800 "_law_bent" 270 3 458 812 813),
 (464,o20 "_law_bent" 64 mNm 648 463),
 (470,o15 "_law_refusal" 815 "_law_refusal" 287 1 465 821 822),
 (471,o20 "_law_refusal" 65 mNm 648 470),
 (477,o15 "_law_told" 824 "_law_told" 303 3 472 833 834),
 (478,o20 "_law_told" 66 mNm 648 477),
 (484,o15 "_law_odd_rows" 836 "_law_odd_rows" 314 2 479 847 848),
 (485,o20 "_law_odd_rows" 67 mNm 648 484),
 (491,o15 "law" 850 "law" 325 1 486 862 863),
 (492,o20 "law" 68 mNm 648 491)]
def kas:List Addr:=[2,3,23,24,40,41,43,44,62,63,81,82,93,94,105,106,117,118,129,130,141,142,153,154,165,166,177,178,189,190,201,202,213,214,222,223,229,230,236,237,243,244,250,251,255,256,260,261,267,268,274,275,281,282,288,289,290,296,297,301,302,308,309,315,316,322,323,329,330,334,335,341,342,348,349,355,356,362,363,369,370,374,375,381,382,388,389,395,396,400,401,405,406,410,411,417,418,422,423,427,428,434,435,439,440,444,445,449,450,456,457,463,464,470,471,477,478,484,485,491,492]
theorem kase:∀P,kas=(kh P).map (·.1):=fun _=>by kernel_rfl
def kq:Program:=PySem.W.view PySem.Challenge.pw_leastdeeds_k03_rows_and_costs [1,2,3,4,5,6,7,8,9,10,11,12,13,14,15,17,19,20,21,22,23,24,25,26,27,28,29,30,31,32,33,34,35,36,37,38,39,40,41,42,43,45,46,47,48,49,50,51,52,53,54,55,56,57,58,59,60,61,62,63,64,65,66,67,68]
abbrev kH:PySem.W.Hook:=PySem.W.kHook kh kas kase
def zoo:List Str:=["SORTS"]
abbrev krow:=PySem.Challenge.rw_leastdeeds_k03_rows_and_costs.row
abbrev kX:Shared->Bool:=fun s=>PySem.W.xlAt kq [] s&&PySem.W.recOk (PySem.W.RowW.records krow.toRowW) s
def kL (P:Params):List Obj:=[o1,
 {cls:=.none,data:=.fields #[.int 2 0,.int 0 0,.ref 20,.int 4 0,.int 0 0,.ref 33,.int 9 0,.int 0 0,.ref 52,.int 14 0,.int 0 0,.ref 71,.int 19 0,.int 0 0,.ref 90,.int 21 0,.int 0 0,.ref 102,.int 23 0,.int 0 0,.ref 114,.int 25 0,.int 0 0,.ref 126]},
 o2 "<module>" 182 1 11 185,
 o3 13 3 "__main__" 164,
 {cls:=.type "tuple",data:=.seq #[.type "ValueError"]},
 o4,
 o5 P 196 "DeedError" 2 22,
 o1,
 o6,
 o2 "DeedError" 191 2 18 194,
 o3 20 17 "leastdeeds.errors" 187,
 o1,
 o7 P 196 2 "__static_attributes__" 201 22 "__weakref__" 25 3,
 {cls:=.type "type",data:=.cls {name:="DeedError",bases:=[.type "ValueError"],mro:=[.ref 24,.type "ValueError",.type "Exception",.type "BaseException",.type "object"],ns:=23,qualname:="DeedError",subclasses:=[.ref 44,.ref 63,.ref 82,.ref 94,.ref 106,.ref 118,.ref 130]},slots:=#[some (.ref 15),none,some (.str "DeedError" 189),some (.str "DeedError" 197),some (.builtin "ValueError.__new__"),some (.bool true)]},
 {cls:=.type "getset_descriptor",data:=.fields #[.str "__weakref__" 202,.ref 24,.builtin "ExceptionGroup.__weakref__",.none]},
 o8 24,
 o9 24,
 o10,
 o4,
 o11 P 214 "NoRow" 4 41,
 o1,
 o12 6 40,
 o2 "NoRow" 209 4 31 212,
 o3 33 30 "leastdeeds.errors" 187,
 o1,
 o6,
 o13 222 "place",
 o1,
 o14 "NoRow.__init__" 2,
 o15 "__init__" 219 "NoRow.__init__" 6 2 35 224 225,
 o16 "NoRow.__init__" 2 40,
 o17 "place" 227,
 o7 P 214 4 "__init__" 226 41 "__static_attributes__" 42 2,
 o18 "NoRow" 44 43 28 207,
 o8 44,
 o9 44,
 o10,
 o4,
 o11 P 239 "NoRule" 9 60,
 o1,
 o12 11 59,
 o2 "NoRule" 234 9 50 237,
 o3 52 49 "leastdeeds.errors" 187,
 o1,
 o6,
 o13 247 "number",
 o1,
 o14 "NoRule.__init__" 3,
 o15 "__init__" 244 "NoRule.__init__" 11 2 54 249 250,
 o16 "NoRule.__init__" 3 59,
 o17 "number" 252,
 o7 P 239 9 "__init__" 251 60 "__static_attributes__" 61 2,
 o18 "NoRule" 63 62 47 232,
 o8 63,
 o9 63,
 o10,
 o4,
 o11 P 264 "NoStep" 14 79,
 o1,
 o12 16 78,
 o2 "NoStep" 259 14 69 262,
 o3 71 68 "leastdeeds.errors" 187,
 o1,
 o6,
 o13 272 "place",
 o1,
 o14 "NoStep.__init__" 4,
 o15 "__init__" 269 "NoStep.__init__" 16 2 73 274 275,
 o16 "NoStep.__init__" 4 78,
 o17 "place" 277,
 o7 P 264 14 "__init__" 276 79 "__static_attributes__" 80 2,
 o18 "NoStep" 82 81 66 257,
 o8 82,
 o9 82,
 o10,
 o4,
 o5 P 289 "NoMachine" 19 92,
 o1,
 o6,
 o2 "NoMachine" 284 19 88 287,
 o3 90 87 "leastdeeds.errors" 187,
 o1,
 o19 P 289 19 92,
 o18 "NoMachine" 94 93 85 282,
 o8 94,
 o9 94,
 o10,
 o4,
 o5 P 305 "TooLong" 21 104,
 o1,
 o6,
 o2 "TooLong" 300 21 100 303,
 o3 102 99 "leastdeeds.errors" 187,
 o1,
 o19 P 305 21 104,
 o18 "TooLong" 106 105 97 298,
 o8 106,
 o9 106,
 o10,
 o4,
 o5 P 321 "NoWord" 23 116,
 o1,
 o6,
 o2 "NoWord" 316 23 112 319,
 o3 114 111 "leastdeeds.errors" 187,
 o1,
 o19 P 321 23 116,
 o18 "NoWord" 118 117 109 314,
 o8 118,
 o9 118,
 o10,
 o4,
 o5 P 337 "NoWork" 25 128,
 o1,
 o6,
 o2 "NoWork" 332 25 124 335,
 o3 126 123 "leastdeeds.errors" 187,
 o1,
 o19 P 337 25 128,
 o18 "NoWork" 130 129 121 330,
 o8 130,
 o9 130]
def kL2 (P:Params):List Obj:=(((kL P).set 1 ({cls:=.none,data:=.fields #[.int 2 0,.int 0 0,.ref 20,.int 4 0,.int 0 0,.ref 33,.int 9 0,.int 0 0,.ref 52,.int 14 0,.int 0 0,.ref 71,.int 19 0,.int 0 0,.ref 90,.int 21 0,.int 0 0,.ref 102,.int 23 0,.int 0 0,.ref 114,.int 25 0,.int 0 0,.ref 126,.int 27 0,.int 0 0,.ref 138,.int 29 0,.int 0 0,.ref 150,.int 31 0,.int 0 0,.ref 162,.int 33 0,.int 0 0,.ref 174,.int 35 0,.int 0 0,.ref 186,.int 37 0,.int 0 0,.ref 198,.int 39 0,.int 0 0,.ref 210,.int 42 0,.int 0 0,.ref 222]})).set 13 (o21))++[o10,
 o4,
 o5 P 353 "NoBound" 27 140,
 o1,
 o6,
 o2 "NoBound" 348 27 136 351,
 o3 138 135 "leastdeeds.errors" 187,
 o1,
 o19 P 353 27 140,
 o18 "NoBound" 142 141 133 346,
 o8 142,
 o9 142,
 o10,
 o4,
 o5 P 369 "TooMany" 29 152,
 o1,
 o6,
 o2 "TooMany" 364 29 148 367,
 o3 150 147 "leastdeeds.errors" 187,
 o1,
 o19 P 369 29 152,
 o18 "TooMany" 154 153 145 362,
 o8 154,
 o9 154,
 o10,
 o4,
 o5 P 385 "NoPlace" 31 164,
 o1,
 o6,
 o2 "NoPlace" 380 31 160 383,
 o3 162 159 "leastdeeds.errors" 187,
 o1,
 o19 P 385 31 164,
 o18 "NoPlace" 166 165 157 378,
 o8 166,
 o9 166,
 o10,
 o4,
 o5 P 401 "NoDeed" 33 176,
 o1,
 o6,
 o2 "NoDeed" 396 33 172 399,
 o3 174 171 "leastdeeds.errors" 187,
 o1,
 o19 P 401 33 176,
 o18 "NoDeed" 178 177 169 394,
 o8 178,
 o9 178,
 o10,
 o4,
 o5 P 417 "Nothing" 35 188,
 o1,
 o6,
 o2 "Nothing" 412 35 184 415,
 o3 186 183 "leastdeeds.errors" 187,
 o1,
 o19 P 417 35 188,
 o18 "Nothing" 190 189 181 410,
 o8 190,
 o9 190,
 o10,
 o4,
 o5 P 433 "NoText" 37 200,
 o1,
 o6,
 o2 "NoText" 428 37 196 431,
 o3 198 195 "leastdeeds.errors" 187,
 o1,
 o19 P 433 37 200,
 o18 "NoText" 202 201 193 426,
 o8 202,
 o9 202,
 o10,
 o4,
 o5 P 449 "NoLine" 39 212,
 o1,
 o6,
 o2 "NoLine" 444 39 208 447,
 o3 210 207 "leastdeeds.errors" 187,
 o1,
 o19 P 449 39 212,
 o18 "NoLine" 214 213 205 442,
 o8 214,
 o9 214,
 o1,
 o6,
 {cls:=.type "tuple",data:=.seq #[.str "thing" 463,.str "low" 464,.str "high" 465]},
 o1,
 {cls:=.none,data:=.func {name:="is_between",qualname:="is_between",params:=zrm (zim 17),body:=PySem.FuncBody.stmts (zrl (zim 17)),scope:=zop (zim 17),globals:=0,closure:=[],defaults:=.none,kwdefaults:=.none,pyModule:=.none,code:=.none}},
 o15 "is_between" 460 "is_between" 42 3 217 466 467,
 o20 "is_between" 17 "leastdeeds.wholes" 458 222]
def kM (P:Params)(os:OsState):PySem.W.SharedT:=⟨HD.treeOf ((((PySem.W.boot_heap P).objs.toList.set 3 ({cls:=.type "dict",data:=.dict #[eN P "__name__" 165 (.str "leastdeeds.errors" 187),eN P "__doc__" 166 (.none),eN P "__package__" 167 (.none),eN P "__loader__" 168 (.builtin "__main__.__loader__#opaque"),eN P "__spec__" 169 (.none),eN P "__annotations__" 170 (.ref 6),eN P "__builtins__" 171 (.ref 4),eN P "__file__" 173 (.str "/claim/cut.py" 172),eN P "__cached__" 174 (.none),eN P "DeedError" 206 (.ref 24),eN P "NoRow" 231 (.ref 44),eN P "NoRule" 256 (.ref 63),eN P "NoStep" 281 (.ref 82),eN P "NoMachine" 297 (.ref 94),eN P "TooLong" 313 (.ref 106),eN P "NoWord" 329 (.ref 118),eN P "NoWork" 345 (.ref 130)] 17})))++kL P) 0 .nil,133,{},#[],{},346,os⟩
def kM2 (P:Params)(os:OsState):PySem.W.SharedT:=⟨HD.treeOf ((((PySem.W.boot_heap P).objs.toList.set 3 ({cls:=.type "dict",data:=.dict #[eN P "__name__" 165 (.str "leastdeeds.machines" 469),eN P "__doc__" 166 (.none),eN P "__package__" 167 (.none),eN P "__loader__" 168 (.builtin "__main__.__loader__#opaque"),eN P "__spec__" 169 (.none),eN P "__annotations__" 170 (.ref 6),eN P "__builtins__" 171 (.ref 4),eN P "__file__" 173 (.str "/claim/cut.py" 172),eN P "__cached__" 174 (.none),eN P "DeedError" 206 (.ref 24),eN P "NoRow" 231 (.ref 44),eN P "NoRule" 256 (.ref 63),eN P "NoStep" 281 (.ref 82),eN P "NoMachine" 297 (.ref 94),eN P "TooLong" 313 (.ref 106),eN P "NoWord" 329 (.ref 118),eN P "NoWork" 345 (.ref 130),eN P "NoBound" 361 (.ref 142),eN P "TooMany" 377 (.ref 154),eN P "NoPlace" 393 (.ref 166),eN P "NoDeed" 409 (.ref 178),eN P "Nothing" 425 (.ref 190),eN P "NoText" 441 (.ref 202),eN P "NoLine" 457 (.ref 214),eN P "is_between" 468 (.ref 223),eN P "LEAST_WORDS" 472 (.int 2 471),eN P "MOST_WORDS" 474 (.int 4 473),eN P "MOST_PLACES" 476 (.int 2 475)] 28})))++kL2 P) 0 .nil,224,{},#[],{},477,os⟩
def kE:Env:={scope:=PySem.Challenge.pw_leastdeeds_k03_rows_and_costs.main.scope,locals:=mainNs,globals:=mainNs,cells:=[],code:=.ref 13,frame:=some 14}
def kP (w:World)(os:OsState):=HD.goT treeTable PySem.Challenge.pw_leastdeeds_k03_rows_and_costs w 11 (some (.ref 6)) 12 (HD.zws w.params os) (PySem.W.topStub PySem.Challenge.pw_leastdeeds_k03_rows_and_costs)
def kU (w:World)(os:OsState):=(kP w os).bind fun x=>HD.zlx treeTable PySem.Challenge.pw_leastdeeds_k03_rows_and_costs w 11 (some (.ref 6)) 1783 x.1 (PySem.W.piecesOf ((PySem.W.behindTheImports PySem.Challenge.pw_leastdeeds_k03_rows_and_costs).take 9) kE (.body (PySem.W.behindTheImports PySem.Challenge.pw_leastdeeds_k03_rows_and_costs) kE) ⟨0,0,0,0⟩ [PySem.W.topFrame ⟨0,0,0,0⟩])
def kV (w:World)(os:OsState):Option (Flow×PySem.W.SharedT×Code×Pos):=some (.next,kM w.params os,(.body (PySem.W.behindTheImports PySem.Challenge.pw_leastdeeds_k03_rows_and_costs) kE),⟨25,0,26,8⟩)
def kU2 (w:World)(os:OsState):=HD.zlx treeTable PySem.Challenge.pw_leastdeeds_k03_rows_and_costs w 11 (some (.ref 6)) 1568 (kM w.params os) (PySem.W.piecesOf (((PySem.W.behindTheImports PySem.Challenge.pw_leastdeeds_k03_rows_and_costs).drop 9).take 13) kE (.body (PySem.W.behindTheImports PySem.Challenge.pw_leastdeeds_k03_rows_and_costs) kE) ⟨25,0,26,8⟩ [PySem.W.topFrame ⟨0,0,0,0⟩])
def kV2 (w:World)(os:OsState):Option (Flow×PySem.W.SharedT×Code×Pos):=some (.next,kM2 w.params os,(.body (PySem.W.behindTheImports PySem.Challenge.pw_leastdeeds_k03_rows_and_costs) kE),⟨49,0,49,11⟩)
def kR (w:World)(os:OsState):=(HD.zki treeTable PySem.Challenge.pw_leastdeeds_k03_rows_and_costs w 11 (some (.ref 6)) 6218 (kM2 w.params os) (PySem.W.restOf (((PySem.W.behindTheImports PySem.Challenge.pw_leastdeeds_k03_rows_and_costs).drop 9).drop 13) kE (.body (PySem.W.behindTheImports PySem.Challenge.pw_leastdeeds_k03_rows_and_costs) kE) ⟨49,0,49,11⟩ [PySem.W.topFrame ⟨0,0,0,0⟩])).map fun s=>HD.zwa PySem.Challenge.pw_leastdeeds_k03_rows_and_costs kq zoo kX true (PySem.W.boot_heap w.params) (fun s=>kas.map s.heap.get?) s.abs
def kG (w:World):=some (true,PySem.W.openGood kq zoo,(kh w.params).map fun p=>some p.2)
def _root_.PySem.W.Fast.tw18365745646010004901:Program:=PySem.Challenge.pw_leastdeeds_k03_rows_and_costs
theorem _root_.PySem.W.Fast.te18365745646010004901:PySem.Challenge.pw_leastdeeds_k03_rows_and_costs=PySem.W.Fast.tw18365745646010004901:=rfl
def _root_.PySem.W.Fast.tw7779256314341846864:Params->PySem.W.Frag:=K03.kh
theorem _root_.PySem.W.Fast.te7779256314341846864:K03.kh=PySem.W.Fast.tw7779256314341846864:=rfl
def _root_.PySem.W.Fast.tw15684274860720271050:Params->OsState->PySem.W.SharedT:=K03.kM
theorem _root_.PySem.W.Fast.te15684274860720271050:K03.kM=PySem.W.Fast.tw15684274860720271050:=rfl
def _root_.PySem.W.Fast.tw13728724679014230434:Params->OsState->PySem.W.SharedT:=K03.kM2
theorem _root_.PySem.W.Fast.te13728724679014230434:K03.kM2=PySem.W.Fast.tw13728724679014230434:=rfl
theorem kRs:kR=kR:=rfl
name_quick kq03 for kR by kRs
theorem kGs:kG=kG:=rfl
name_quick kg03 for kG by kGs
theorem kUs:kU=kU:=rfl
name_quick ku03 for kU by kUs
theorem kVs:kV=kV:=rfl
name_quick kv03 for kV by kVs
theorem kU2s:kU2=kU2:=rfl
name_quick kuu03 for kU2 by kU2s
theorem kV2s:kV2=kV2:=rfl
name_quick kvv03 for kV2 by kV2s
theorem z1o:∀(w:World) (os:OsState),PySem.W.Fast.ku03 (w.withFollow "special-get-raises" false) os=PySem.W.Fast.kv03 (w.withFollow "special-get-raises" false) os:=fun w os=>by kernel_rfl
theorem z4n:∀(w:World) (os:OsState),PySem.W.Fast.ku03 (w.withFollow "special-get-raises" true) os=PySem.W.Fast.kv03 (w.withFollow "special-get-raises" true) os:=fun w os=>by kernel_rfl
theorem ka:∀(w:World) (os:OsState),kU w os=kV w os:=fun w os=>by
 rw [PySem.W.Fast.ku03_eq,PySem.W.Fast.kv03_eq]
 exact PySem.W.byRow2 "special-get-raises" (P:=fun w=>PySem.W.Fast.ku03 w os=PySem.W.Fast.kv03 w os) (fun w=>z1o w os) (fun w=>z4n w os) w
theorem z1n:∀(w:World) (os:OsState),PySem.W.Fast.kuu03 (w.withFollow "special-get-raises" false) os=PySem.W.Fast.kvv03 (w.withFollow "special-get-raises" false) os:=fun w os=>by kernel_rfl
theorem z4m:∀(w:World) (os:OsState),PySem.W.Fast.kuu03 (w.withFollow "special-get-raises" true) os=PySem.W.Fast.kvv03 (w.withFollow "special-get-raises" true) os:=fun w os=>by kernel_rfl
theorem kb:∀(w:World) (os:OsState),kU2 w os=kV2 w os:=fun w os=>by
 rw [PySem.W.Fast.kuu03_eq,PySem.W.Fast.kvv03_eq]
 exact PySem.W.byRow2 "special-get-raises" (P:=fun w=>PySem.W.Fast.kuu03 w os=PySem.W.Fast.kvv03 w os) (fun w=>z1n w os) (fun w=>z4m w os) w
theorem z1m:∀(w:World) (os:OsState),PySem.W.Fast.kq03 (w.withFollow "special-get-raises" false) os=PySem.W.Fast.kg03 (w.withFollow "special-get-raises" false):=fun w os=>by kernel_rfl
theorem z4l:∀(w:World) (os:OsState),PySem.W.Fast.kq03 (w.withFollow "special-get-raises" true) os=PySem.W.Fast.kg03 (w.withFollow "special-get-raises" true):=fun w os=>by kernel_rfl
theorem kl:∀(w:World) (os:OsState),kR w os=kG w:=fun w os=>by
 rw [PySem.W.Fast.kq03_eq,PySem.W.Fast.kg03_eq]
 exact PySem.W.byRow2 "special-get-raises" (P:=fun w=>PySem.W.Fast.kq03 w os=PySem.W.Fast.kg03 w) (fun w=>z1m w os) (fun w=>z4l w os) w
theorem kp:∀(w:World) (os:OsState),(kP w os).map (·.2)=some ⟨denote treeTable (.body (PySem.W.behindTheImports PySem.Challenge.pw_leastdeeds_k03_rows_and_costs) kE),(.body (PySem.W.behindTheImports PySem.Challenge.pw_leastdeeds_k03_rows_and_costs) kE),⟨0,0,0,0⟩,[PySem.W.topFrame ⟨0,0,0,0⟩]⟩:=fun w os=>by kernel_rfl
theorem kleft:PySem.W.LeftO krow.prog kq zoo kX kH.obs kH.val 9582:=HD.zud (m0:=11) (ann:=some (.ref 6)) (PySem.W.boot_open (by rfl) (by decide) (fun _=>rfl)) (fun w=>by kernel_rfl) fun w os=>HD.z16 (J:=9) (J2:=13) (kp w os) (by kernel_rfl) (ka w os) (kb w os) (kl w os)
end K03
namespace L2
open PySem PySem.Spec PyProof.Rows
abbrev Key:=Sum Int Str
def zrk:Key->Value->Bool
 |.inl k,v=>Value.isInt k v
 |.inr x,v=>Value.isStrOf x v
def keyH (w:World):Key->Int
 |.inl k=>hashInt k
 |.inr x=>hashStr w x
theorem zdn:∀{k:Key}{v:Value},zrk k v=true->(∃i t,k=Sum.inl i/\v=Value.int i t)\/(∃x t,k=Sum.inr x/\v=Value.str x t)
 | .inl i, v, h => by
   obtain ⟨t,e⟩:=Value.isInt_shape (k:=i) (v:=v) h
   exact .inl ⟨i,t,rfl,e⟩
 | .inr x, v, h => by
   obtain ⟨t,e⟩:=Value.isStrOf_shape (x:=x) (v:=v) h
   exact .inr ⟨x,t,rfl,e⟩
theorem zjz (x:Str)(t:Tok):zrk (.inr x) (.str x t)=true:=by simp [zrk,Value.isStrOf]
theorem key_ll (a b:Int):decide ((Sum.inl a:Key)=Sum.inl b)=(a==b):=by
 by_cases e:a=b
 ·subst e;simp
 ·have h:¬ (Sum.inl a:Key)=Sum.inl b:=fun q=>e (Sum.inl.inj q)
  rw [decide_eq_false h]
  exact (beq_eq_false_iff_ne.mpr e).symm
theorem key_rr (a b:Str):decide ((Sum.inr a:Key)=Sum.inr b)=decide (a=b):=by
 by_cases e:a=b
 ·subst e;simp
 ·have h:¬ (Sum.inr a:Key)=Sum.inr b:=fun q=>e (Sum.inr.inj q)
  rw [decide_eq_false h,decide_eq_false e]
theorem key_lr (a:Int)(b:Str):decide ((Sum.inl a:Key)=Sum.inr b)=false:=decide_eq_false (fun q=>nomatch q)
theorem key_rl (a:Str)(b:Int):decide ((Sum.inr a:Key)=Sum.inl b)=false:=decide_eq_false (fun q=>nomatch q)
def zko (prog:Program)(w:World):PySem.KeyKind prog w Key where
 is:=zrk
 hash:=keyH w
 inj:=fun v a b ha hb=>by
  rcases zdn ha with ⟨i,t,rfl,rfl⟩|⟨x,t,rfl,rfl⟩
  ·rcases zdn hb with ⟨j,u,rfl,e⟩|⟨y,u,rfl,e⟩
   ·injection e with e1 _;rw [e1]
   ·exact nomatch e
  ·rcases zdn hb with ⟨j,u,rfl,e⟩|⟨y,u,rfl,e⟩
   ·exact nomatch e
   ·injection e with e1 _;rw [e1]
 byValue:=fun k v h=>by
  rcases zdn h with ⟨i,t,rfl,rfl⟩|⟨x,t,rfl,rfl⟩<;>rfl
 pyHash:=fun hv h=>by
  rcases zdn hv with ⟨i,t,rfl,rfl⟩|⟨x,t,rfl,rfl⟩
  ·exact wpAny_pyHash_int h
  ·exact wpAny_pyHash_str h
 eqBool:=fun hu hv h=>by
  rcases zdn hu with ⟨i,t,rfl,rfl⟩|⟨x,t,rfl,rfl⟩
  ·rcases zdn hv with ⟨j,u,rfl,rfl⟩|⟨y,u,rfl,rfl⟩
   ·rw [key_ll] at h;exact wpAny_eqBool_int h
   ·rw [key_lr] at h;exact SeqAt.EqAt.int_str i t y u _ _ _ _ h
  ·rcases zdn hv with ⟨j,u,rfl,rfl⟩|⟨y,u,rfl,rfl⟩
   ·rw [key_rl] at h;exact SeqAt.EqAt.str_int x t j u _ _ _ _ h
   ·rw [key_rr] at h;exact wpAny_eqBool_str h
 «strs»:=fun k x t v h=>by
  rcases zdn h with ⟨i,u,rfl,e⟩|⟨y,u,rfl,e⟩
  ·exact nomatch e
  ·injection e with e1 _
   subst e1
   cases v<;>rfl
end L2
namespace L2
open PySem PySem.Spec PyProof.Rows
inductive V where
 |non|bl (b:Bool)|int (i:Int)|str (x:Str)|byt (b:Array UInt8)|flt (b:UInt64)|ref (a:Addr)|ty (n:String)
 deriving DecidableEq
def RelV:V->Value->Prop
 |.non,u=>u=Value.none
 |.bl b,u=>u=Value.bool b
 |.int i,u=>∃t,u=Value.int i t
 |.str x,u=>∃t,u=Value.str x t
 |.byt b,u=>∃t,u=Value.bytes b t
 |.flt b,u=>∃t,u=Value.float b t
 |.ref a,u=>u=Value.ref a
 |.ty n,u=>u=Value.type n
abbrev Vals:List V->List Value->Prop:=Paired RelV
theorem Vals.length {xs:List V}{us:List Value}(r:Vals xs us):xs.length=us.length:=Paired.length r
theorem Vals.get:∀{xs:List V}{us:List Value}{i:Nat}{x:V},Vals xs us->xs[i]?=some x->∃u,us[i]?=some u/\RelV x u
 |_,_,_,_,.nil,e=>by simp at e
 |_,_,0,_,.cons r _,e=>by simp at e;subst e;exact ⟨_,rfl,r⟩
 | _, _, i + 1, x, .cons _ t, e => by
   obtain ⟨u,h1,h2⟩:=Vals.get (i:=i) (x:=x) t (by simpa using e)
   exact ⟨u,by simpa using h1,h2⟩
theorem Vals.set {x:V}{u:Value}(r:RelV x u):∀{xs:List V}{us:List Value} (i:Nat),Vals xs us->Vals (xs.set i x) (us.set i u)
 |_,_,_,.nil=>.nil
 |_,_,0,.cons _ t=>.cons r t
 |_,_,i+1,.cons q t=>.cons q (Vals.set r i t)
theorem Vals.append:∀{xs ys:List V}{us ws:List Value},Vals xs us->Vals ys ws->Vals (xs++ys) (us++ws)
 |_,_,_,_,.nil,s=>s
 |_,_,_,_,.cons r t,s=>.cons r (Vals.append t s)
theorem Vals.take:∀{xs:List V}{us:List Value} (n:Nat),Vals xs us->Vals (xs.take n) (us.take n)
 |_,_,0,_=>.nil
 |_,_,_+1,.nil=>.nil
 |_,_,n+1,.cons r t=>.cons r (Vals.take n t)
theorem Vals.drop:∀{xs:List V}{us:List Value} (n:Nat),Vals xs us->Vals (xs.drop n) (us.drop n)
 |_,_,0,r=>r
 |_,_,_+1,.nil=>.nil
 |_,_,n+1,.cons _ t=>Vals.drop n t
def RelO:Option V->Option Value->Prop
 |some v,some u=>RelV v u
 |none,none=>True
 |_,_=>False
def KV {κ:Type}:List (κ×V)->List (κ×Value)->Prop:=Paired fun (p:κ×V) (q:κ×Value)=>p.1=q.1/\RelV p.2 q.2
def kV:Key->V
 |.inl i=>.int i
 |.inr x=>.str x
inductive HO where
 |lst (xs:List V)
 |tup (xs:List V)
 |dK (kvs:List (Key×V))|dT (kvs:List (List Key×V))
 |set (S:Int->Bool) (n:Nat)
 |ins (C dx:Addr) (fs:List (Str×V))
 |own (x:Addr)
 |xd (fs:List (Str×V))
 |met (f x:Addr)
 |rng (lo hi:Int)
 |frz (o:Obj) (u:HO)
 |tbl (ps:Array Value)
 |ext (φ:Heap->Prop)
abbrev Hp:=Addr->Option HO
def upd (H:Hp)(a:Addr)(o:HO):Hp:=fun b=>if b=a then some o else H b
theorem zcf {H:Hp}{a:Addr}{o:HO}:upd H a o a=some o:=by unfold upd;rw [if_pos rfl]
theorem zaz {H:Hp}{a b:Addr}{o:HO}(h:b≠a):upd H a o b=H b:=by unfold upd;rw [if_neg h]
theorem zbi {H:Hp}{a b:Addr}{o:HO}(h:H a=some o)(h':H b=none):a≠b:=by
 intro e;subst e;rw [h] at h';cases h'
section
variable (P:Program)(w:World)
def zdb (H:Hp)(h:Heap)(a:Addr):HO->Prop
 |.lst xs=>xs.length<=sizeLine/\∃(its:List Value) (n:Nat),Vals xs its/\h.get? a=some {cls:=.type "list",data:=.seq its.toArray n}
 |.tup xs=>xs.length<=sizeLine/\∃its:List Value,Vals xs its/\IsTup h a its.toArray
 |.dK kvs=>kvs.length<=sizeLine/\(a==sysModules)=false/\∃vs,KV kvs vs/\h.DictOf (zko P w) a vs
 |.dT kvs=>kvs.length<=sizeLine/\(a==sysModules)=false/\∃xs:List (List Key×Addr×Value),
  Paired (fun (p:List Key×V) (q:List Key×Addr×Value)=>p.1=q.1/\H q.2.1=some (.tup (p.1.map kV))/\RelV p.2 q.2.2) kvs xs/\
  ∃o es ep,h.get? a=some o/\o.ExactDict/\o.data=.dict es ep/\es.toList=xs.map (entryOfKey (tupleKind (zko P w)))/\(xs.map (·.1)).Nodup
 |.set S n=>h.SetOf (intKind P w) a S n
 |.ins C dx fs=>H dx=some (.own a)/\fs.length<=1000/\dx≠a/\h.get? a=some (PySem.W.instObj C dx)/\
  ∃mA,h.Ns1 dx mA/\(∀f,RelO (fs.lookup f) (mA f))/\PySem.Within mA (fs.map (·.1))
 |.own _=>∃o,h.get? a=some o
 |.xd fs=>∃mA,h.Ns1 a mA/\∀f,RelO (fs.lookup f) (mA f)
 |.rng lo hi=>∃t u v,h.get? a=some {cls:=.type "range",data:=.fields #[.int lo t,.int hi u,.int 1 v]}
 |.frz o u=>h.get? a=some o/\zdb H h a u
 |.tbl ps=>h.get? a=some {cls:=.none,data:=.fields ps}
 |.met f x=>h.get? a=some (PySem.W.methodObj (.ref f) (.ref x))
 |.ext φ=>φ h/\(∃o,h.get? a=some o)/\∀h1 h2:Heap,φ h1->(∀o,h1.get? a=some o->h2.get? a=some o)->φ h2
def HOk (H:Hp)(h:Heap):Prop:=∀a o,H a=some o->zdb P w H h a o
end
section
variable {P:Program}{w:World}{H H':Hp}{h h':Heap}{a:Addr}{o:HO}
theorem zdb.lt (x:zdb P w H h a o):a<h.objs.size:=by
 cases o with
 |lst xs=>obtain ⟨_,_,_,_,e⟩:=x;exact tqd e
 |tup xs=>obtain ⟨_,_,_,p⟩:=x;exact p.lt
 |dK kvs=>obtain ⟨_,_,_,_,o,_,_,e,_⟩:=x;exact tqd e
 |dT kvs=>obtain ⟨_,_,_,_,o,_,_,e,_⟩:=x;exact tqd e
 |set S n=>obtain ⟨o,_,_,_,e,_⟩:=x;exact tqd e
 |ins C dx fs=>obtain ⟨_,_,_,e,_⟩:=x;exact tqd e
 |own y=>obtain ⟨_,e⟩:=x;exact tqd e
 |xd fs=>obtain ⟨_,⟨_,_,_,e,_⟩,_⟩:=x;exact tqd e
 |rng lo hi=>obtain ⟨_,_,_,e⟩:=x;exact tqd e
 |frz ob u=>obtain ⟨e,_⟩:=x;exact tqd e
 |tbl ps=>exact tqd (show h.get? a=some _ from x)
 |met f y=>exact tqd (show h.get? a=some _ from x)
 |ext φ=>obtain ⟨_,⟨_,e⟩,_⟩:=x;exact tqd e
theorem Paired.mapP {α β:Type}{F G:α->β->Prop}:∀{l₁:List α}{l₂:List β},Paired F l₁ l₂->(∀a b,F a b->G a b)->Paired G l₁ l₂
 |_,_,.nil,_=>.nil
 |_,_,.cons r t,f=>.cons (f _ _ r) (Paired.mapP t f)
theorem zdb.stay (x:zdb P w H h a o)(k:∀b u,(b=a\/H b=some (.own a))->h.get? b=some u->h'.get? b=some u)
 (ho:∀b,H b=some (.own a)->H' b=some (.own a)) (ht:∀b xs,H b=some (.tup xs)->H' b=some (.tup xs)):zdb P w H' h' a o:=by
 induction o with
 |lst xs=>obtain ⟨z,its,n,r,e⟩:=x;exact ⟨z,its,n,r,k _ _ (.inl rfl) e⟩
 |tup xs=>obtain ⟨z,its,r,ob,e,c⟩:=x;exact ⟨z,its,r,ob,k _ _ (.inl rfl) e,c⟩
 |dK kvs=>obtain ⟨z,y,vs,r,ob,es,ep,e,c⟩:=x;exact ⟨z,y,vs,r,ob,es,ep,k _ _ (.inl rfl) e,c⟩
 | dT kvs =>
   obtain ⟨z,y,xs,r,ob,es,ep,e,c⟩:=x
   exact ⟨z,y,xs,Paired.mapP r fun p q z=>⟨z.1,ht _ _ z.2.1,z.2.2⟩,ob,es,ep,k _ _ (.inl rfl) e,c⟩
 |set S n=>obtain ⟨ob,es,ep,t,e,c⟩:=x;exact ⟨ob,es,ep,t,k _ _ (.inl rfl) e,c⟩
 | ins C dx fs =>
   obtain ⟨d,z,ne,e,mA,⟨od,es,ep,e2,c⟩,r⟩:=x
   exact ⟨ho _ d,z,ne,k _ _ (.inl rfl) e,mA,⟨od,es,ep,k _ _ (.inr d) e2,c⟩,r⟩
 |own y=>obtain ⟨ob,e⟩:=x;exact ⟨ob,k _ _ (.inl rfl) e⟩
 |xd fs=>obtain ⟨mA,⟨od,es,ep,e,c⟩,r⟩:=x;exact ⟨mA,⟨od,es,ep,k _ _ (.inl rfl) e,c⟩,r⟩
 |rng lo hi=>obtain ⟨t,u,v,e⟩:=x;exact ⟨t,u,v,k _ _ (.inl rfl) e⟩
 |frz ob u ih=>obtain ⟨e,q⟩:=x;exact ⟨k _ _ (.inl rfl) e,ih q⟩
 | tbl ps =>
   have e:h.get? a=some {cls:=.none,data:=.fields ps}:=x
   show h'.get? a=some {cls:=.none,data:=.fields ps}
   exact k a _ (.inl rfl) e
 | met f y =>
   have e:h.get? a=some (PySem.W.methodObj (.ref f) (.ref y)):=x
   show h'.get? a=some (PySem.W.methodObj (.ref f) (.ref y))
   exact k a _ (.inl rfl) e
 |ext φ=>obtain ⟨p,⟨o,e⟩,st⟩:=x;exact ⟨st _ _ p fun o q=>k _ _ (.inl rfl) q,⟨o,k _ _ (.inl rfl) e⟩,st⟩
theorem HOk.lt (x:HOk P w H h)(e:H a=some o):a<h.objs.size:=(x a o e).lt
theorem HOk.fresh (x:HOk P w H h)(e:h.objs.size<=a):H a=none:=by
 cases q:H a with
 |none=>rfl
 |some u=>exact absurd (tqi (x.lt q) e) (tqn _)
theorem HOk.kept (x:HOk P w H h)(k:∀b u,h.get? b=some u->h'.get? b=some u):HOk P w H h':=fun a o e=>
 (x a o e).stay (fun b u _ q=>k b u q) (fun _ q=>q) fun _ _ q=>q
theorem HOk.laid (x:HOk P w H h)(k:∀b u,h.get? b=some u->h'.get? b=some u)(hp:h.objs.size<=a)(new:zdb P w (upd H a o) h' a o):HOk P w (upd H a o) h':=fun b u e=>by
 have hn:=x.fresh hp
 by_cases hb:b=a
 ·subst hb;rw [zcf] at e;cases e;exact new
 ·rw [zaz hb] at e
  exact (x b u e).stay (fun c v _ q=>k c v q) (fun c q=>by rw [zaz (zbi q hn)];exact q) fun c xs q=>by rw [zaz (zbi q hn)];exact q
end
def Rd (H:Hp)(a:Addr)(u:HO):Prop:=H a=some u\/∃o,H a=some (.frz o u)
theorem Rd.ok {P:Program}{w:World}{H:Hp}{h:Heap}{a:Addr}{u:HO}(r:Rd H a u)(x:HOk P w H h):zdb P w H h a u:=by
 rcases r with r|⟨o,r⟩
 ·exact x a u r
 ·obtain ⟨_,q⟩:=x a _ r
  exact q
def Mut:Option HO->Prop
 |some (.lst _)=>True
 |some (.dK _)=>True
 |some (.dT _)=>True
 |some (.set _ _)=>True
 |some (.ins _ _ _)=>True
 |some (.ext _)=>True
 |_=>False
section
variable {P:Program}{w:World}{H:Hp}{h h':Heap}{x e:Addr}{o':HO}
theorem HOk.write (ok:HOk P w H h)(mu:Mut (H x))(he:e=x\/H e=some (.own x))(k:∀b u,b≠e->h.get? b=some u->h'.get? b=some u)(heo:∃u,h'.get? e=some u)
 (new:zdb P w (upd H x o') h' x o'):HOk P w (upd H x o') h':=fun b u q=>by
 have nown:∀c y,H c=some (.own y)->c≠x:=fun c y r z=>by subst z;rw [r] at mu;exact mu
 have ntup:∀c xs,H c=some (.tup xs)->c≠x:=fun c xs r z=>by subst z;rw [r] at mu;exact mu
 by_cases hb:b=x
 ·subst hb;rw [zcf] at q;cases q;exact new
 ·rw [zaz hb] at q
  by_cases hbe:b=e
  ·have q':H b=some (.own x):=by
    rcases he with z|z
    ·exact absurd (hbe.trans z) hb
    ·rw [hbe];exact z
   rw [q] at q';cases q'
   obtain ⟨v,hv⟩:=heo
   exact ⟨v,by rw [hbe];exact hv⟩
  ·refine (ok b u q).stay (fun c v hc r=>k c v ?_ r) (fun c r=>by rw [zaz (nown c b r)];exact r) fun c xs r=>by rw [zaz (ntup c xs r)];exact r
   rcases hc with rfl|hc
   ·exact hbe
   ·rintro rfl
    rcases he with z|z
    ·exact nown c b hc z
    ·rw [hc] at z;cases z;exact hb rfl
end
structure Un (fs ex:List Addr) (H H':Hp) (h h':Heap):Prop where
 keep:∀b o,h.get? b=some o->H b=none->b∉fs->b∉ex->h'.get? b=some o
 slot:∀b o,h.get? b=some o->H b=none->b∈fs->b∉ex->∃sl,h'.get? b=some {o with slots:=sl}
 free:∀b o,h.get? b=some o->H b=none->b∉ex->H' b=none
 there:∀b o,h.get? b=some o->b∉ex->∃o',h'.get? b=some o'
 tups:∀b xs,H b=some (.tup xs)->H' b=some (.tup xs)
 frzs:∀b o u,H b=some (.frz o u)->H' b=some (.frz o u)
 tbls:∀b ps,H b=some (.tbl ps)->∃more,H' b=some (.tbl (ps++more))
section
variable {fs fs' ex ex':List Addr}{H H1 H2:Hp}{h h1 h2 h':Heap}{a x e:Addr}{o:HO}
theorem Un.any (u:Un fs ex H H1 h h1){b:Addr}{ob:Obj}(q:h.get? b=some ob)(n:H b=none)(hx:b∉ex):∃sl,h1.get? b=some {ob with slots:=sl}:=by
 by_cases hb:b∈fs
 ·exact u.slot b ob q n hb hx
 ·exact ⟨ob.slots,u.keep b ob q n hb hx⟩
theorem Un.kept (k:∀b u,h.get? b=some u->h'.get? b=some u):Un fs ex H H h h':=
 ⟨fun b ob q _ _ _=>k b ob q,fun b ob q _ _ _=>⟨ob.slots,k b ob q⟩,fun _ _ _ n _=>n,fun b ob q _=>⟨ob,k b ob q⟩,fun _ _ q=>q,fun _ _ _ q=>q,fun _ ps q=>⟨#[],by rw [q];simp⟩⟩
theorem Un.refl:Un fs ex H H h h:=Un.kept fun _ _ q=>q
theorem Un.laid (k:∀b u,h.get? b=some u->h'.get? b=some u)(hp:h.objs.size<=a)(hn:H a=none):Un fs ex H (upd H a o) h h' where
 keep:=fun b u q _ _ _=>k b u q
 slot:=fun b u q _ _ _=>⟨u.slots,k b u q⟩
 free:=fun b u q n _=>by rw [zaz (tqk (tqi (tqd q) hp))];exact n
 there:=fun b u q _=>⟨u,k b u q⟩
 tups:=fun b xs q=>by rw [zaz (zbi q hn)];exact q
 frzs:=fun b u xs q=>by rw [zaz (zbi q hn)];exact q
 tbls:=fun b ps q=>⟨#[],by rw [zaz (zbi q hn),q];simp⟩
theorem Un.write (mu:Mut (H x))(he:e=x\/H e=some (.own x))(k:∀b u,b≠e->h.get? b=some u->h'.get? b=some u)(heo:∃u,h'.get? e=some u):Un fs ex H (upd H x o) h h':=by
 have hx:∀b,H b=none->b≠x:=fun b n z=>by subst z;rw [n] at mu;exact mu
 have hb:∀b,H b=none->b≠e:=fun b n z=>by
  subst z
  rcases he with r|r
  ·exact hx b n r
  ·rw [n] at r;cases r
 have hm:∀b u,H b=some u->¬ Mut (some u)->b≠x:=fun b u q nm z=>by subst z;rw [q] at mu;exact nm mu
 refine ⟨fun b u q n _ _=>k b u (hb b n) q,fun b u q n _ _=>⟨u.slots,k b u (hb b n) q⟩,fun b u q n _=>by rw [zaz (hx b n)];exact n,fun b u q _=>?_,
  fun b xs q=>by rw [zaz (hm b _ q fun z=>z)];exact q,fun b u xs q=>by rw [zaz (hm b _ q fun z=>z)];exact q,fun b ps q=>⟨#[],by rw [zaz (hm b _ q fun z=>z),q];simp⟩⟩
 by_cases hbe:b=e
 ·subst hbe;exact heo
 ·exact ⟨u,k b u hbe q⟩
end
def trk (h:Heap)(H:Hp):List Addr:=(List.range h.objs.size).filter fun a=>(H a).isSome
def zlj (h:Heap)(H:Hp):Heap:=PySem.W.hideAll h (trk h H)
theorem zyr (h:Heap)(H:Hp):(zlj h H).objs.size=h.objs.size:=PySem.W.hideAll_size _ _
theorem z1u {h:Heap}{H:Hp}{b:Addr}{o:Obj}(e:h.get? b=some o)(n:H b=none):(zlj h H).get? b=some o:=
 PySem.W.hideAll_get _ e fun hm=>by
  have q:(H b).isSome=true:=(List.mem_filter.mp hm).2
  rw [n] at q;simp at q
theorem z4b {h:Heap}{H:Hp}{b:Addr}{o:Obj}(e:(zlj h H).get? b=some o):h.get? b=some o/\H b=none:=by
 have e':h.get? b=some o:=PySem.W.of_hideAll (trk h H) e
 refine ⟨e',?_⟩
 cases q:H b with
 |none=>rfl
 | some x =>
   have hm:b∈trk h H:=List.mem_filter.mpr ⟨List.mem_range.mpr (tqd e'),by simp [q]⟩
   have z:(zlj h H).get? b=none:=PySem.W.hideAll_none (trk h H) hm
   rw [z] at e;cases e
end L2
namespace L2
open PySem PySem.Spec PyProof.Rows
structure Mod (K:PySem.W.Frag) (mg:Str->Option Value) (base:Heap):Prop where
 kin:K.In base
 glob:base.Ns mainGlobals mg
 blt:∃mb,base.Ns builtinsNs mb/\∀x:Str,x≠"__name__"->mb x=bootBuiltins x
 nolimit:base.NoLimit
structure Cx where
 prog:Program
 w:World
 K:PySem.W.Frag
 mg:Str->Option Value
 base:Heap
 A:Around
 N:List Str
 s₀:Shared
 H₀:Hp
 env:Env
 outer:List Env
 stack:List Env
 ex:List Addr
 fn:Str->Bool
 calm:Bool
 pn:List (Addr×Obj)
 xe:Value->Shared->Prop
def frs (l:List Env):List Addr:=l.filterMap (·.frame)
abbrev Cx.fs (X:Cx):List Addr:=frs X.outer
def Vis (sc:Scope)(x:Str):Prop:=sc.names.lookup x=some .local\/sc.names.lookup x=some .cell\/sc.names.lookup x=some .free
def Loc (sc:Scope)(x:Str):Prop:=sc.names.lookup x=some .local\/sc.names.lookup x=some .cell
def Look (env:Env)(h:Heap)(m:Str->Option Value)(x:Str)(u:Value):Prop:=
 (env.kindOf x=some .local/\m x=some u)\/((env.kindOf x=some .cell\/env.kindOf x=some .free)/\∃c,env.cells.lookup x=some c/\h.IsCell c (some u))
structure Cx.Ok (X:Cx):Prop where
 mod:Mod X.K X.mg X.base
 kind:X.env.scope.kind=.function
 glob:X.env.globals=mainGlobals
 blt:X.env.builtins=builtinsNs
 above:X.s₀.heap.objs.size<=X.env.locals
 inj:∀x y c,X.env.cells.lookup x=some c->X.env.cells.lookup y=some c->x=y
 has:∀x,(X.env.kindOf x=some .cell\/X.env.kindOf x=some .free)->∃c,X.env.cells.lookup x=some c
 cab:∀x c,X.fn x=true->X.env.cells.lookup x=some c->X.s₀.heap.objs.size<=c
 hd:X.calm=true->X.A.handled=none
 frames:X.A.frames=some X.stack
 stk:X.stack=X.outer\/(X.stack=X.env::X.outer/\X.env.frame=some X.env.locals)
 exf:∀b∈X.ex,b≠X.env.locals/\∀x c,X.env.cells.lookup x=some c->c≠b
 bs:∀b o,X.base.get? b=some o->X.s₀.heap.get? b=some o/\X.H₀ b=none
 bsz:X.base.objs.size<=X.s₀.heap.objs.size
 noex:∀b o,X.base.get? b=some o->b∉X.ex
 exfs:∀b∈X.ex,b∉X.fs
 funs:X.s₀.heap.FunFrames X.base X.outer
 frf:∀b∈X.fs,X.H₀ b=none
structure Inv (X:Cx) (pins:List (Addr×Obj)) (σ:List (Option V)) (H:Hp) (s:Shared):Prop where
 ok:X.Ok
 os:s.os=X.s₀.os
 bare:AllBare s.gens
 base:Un X.fs X.ex X.H₀ H X.s₀.heap s.heap
 loc:∃m,s.heap.Ns X.env.locals m/\∀(i:Nat) (x:Str) (v:V),X.N[i]?=some x->σ[i]?=some (some v)->Vis X.env.scope x->∃u,RelV v u/\Look X.env s.heap m x u
 cell:∀x c,X.env.cells.lookup x=some c->∃v,s.heap.IsCell c v
 free:H X.env.locals=none
 freeC:∀x c,X.env.cells.lookup x=some c->H c=none
 pin:∀p∈X.pn++pins,s.heap.get? p.1=some p.2/\H p.1=none/\p.1≠X.env.locals/\p.1∉X.fs/\∀v,p.2.data≠.cell v
 hok:HOk X.prog X.w H s.heap
 len:σ.length=X.N.length
section
variable {X:Cx}{pins:List (Addr×Obj)}{σ:List (Option V)}{H H':Hp}{s:Shared}{h':Heap}
theorem Cx.Ok.nofr (ok:X.Ok){b:Addr}{o:Obj}(e:X.base.get? b=some o):b∉X.fs:=fun hb=>by
 have:=(ok.funs.mem hb).1
 rw [e] at this;cases this
theorem Inv.bs (I:Inv X pins σ H s):∀b o,X.base.get? b=some o->s.heap.get? b=some o/\H b=none:=fun b o e=>
 ⟨I.base.keep b o (I.ok.bs b o e).1 (I.ok.bs b o e).2 (I.ok.nofr e) (I.ok.noex b o e),I.base.free b o (I.ok.bs b o e).1 (I.ok.bs b o e).2 (I.ok.noex b o e)⟩
theorem Inv.bk (I:Inv X pins σ H s):∀b o,X.base.get? b=some o->s.heap.get? b=some o:=fun b o e=>(I.bs b o e).1
theorem Inv.mod (I:Inv X pins σ H s):Mod X.K X.mg X.base:=I.ok.mod
theorem Inv.kIn (I:Inv X pins σ H s):X.K.In s.heap:=I.ok.mod.kin.keeps I.bk
theorem Inv.lt (I:Inv X pins σ H s):X.env.locals<s.heap.objs.size:=let ⟨_,hn,_⟩:=I.loc;hn.lt
theorem Inv.sz (I:Inv X pins σ H s):X.s₀.heap.objs.size<=s.heap.objs.size:=tqh I.ok.above (Nat.le_of_lt I.lt)
theorem Inv.nofs (I:Inv X pins σ H s){a:Addr}(h:s.heap.objs.size<=a):a∉X.fs:=fun hb=>by
 obtain ⟨_,o,ho,_⟩:=I.ok.funs.mem hb
 exact absurd (tqi (tqd ho) (tqh I.sz h)) (tqn _)
theorem Inv.cne (I:Inv X pins σ H s):∀x c,X.env.cells.lookup x=some c->c≠X.env.locals:=fun x c e z=>by
 obtain ⟨v,o,ho,hd⟩:=I.cell x c e
 obtain ⟨m,⟨o',es,ep,ho',hd',_⟩,_⟩:=I.loc
 rw [z,ho'] at ho;cases ho;rw [hd'] at hd;cases hd
theorem Inv.funs (I:Inv X pins σ H s):s.heap.FunFrames X.base X.outer:=by
 have all:∀(l:List Env),(∀b∈frs l,b∈X.fs)->X.s₀.heap.FunFrames X.base l->s.heap.FunFrames X.base l:=by
  intro l
  induction l with
  |nil=>intro _ _;trivial
  | cons env r ih =>
    intro hs hl
    obtain ⟨hk,⟨L,o,hf,hn,ho,hd⟩,hr⟩:=hl
    have hL:L∈X.fs:=hs L (by unfold frs;rw [List.filterMap_cons,hf];exact List.mem_cons_self)
    obtain ⟨sl,e⟩:=I.base.slot L o ho (I.ok.frf L hL) hL fun z=>I.ok.exfs L z hL
    exact ⟨hk,⟨L,_,hf,hn,e,hd⟩,ih (fun b hb=>hs b (by unfold frs;rw [List.filterMap_cons,hf];exact List.mem_cons_of_mem _ hb)) hr⟩
 exact all X.outer (fun _ hb=>hb) I.ok.funs
theorem Inv.stack (I:Inv X pins σ H s):s.heap.FunFrames X.base X.stack:=by
 rcases I.ok.stk with e|⟨e,hf⟩
 ·rw [e];exact I.funs
 ·rw [e]
  obtain ⟨m,hn,_⟩:=I.loc
  refine .cons (by rw [I.ok.kind];decide) hf hn ?_ I.funs
  exact Heap.get?_none_of_le (tqh I.ok.bsz I.ok.above)
theorem Inv.stkSub (I:Inv X pins σ H s):∀b∈frs X.stack,b∈X.env.locals::X.fs:=fun b hb=>by
 rcases I.ok.stk with e|⟨e,hf⟩
 ·rw [e] at hb;exact List.mem_cons_of_mem _ hb
 ·rw [e] at hb
  unfold frs at hb
  rw [List.filterMap_cons,hf] at hb
  exact hb
theorem Inv.stkFree (I:Inv X pins σ H s):∀b∈frs X.stack,H b=none:=fun b hb=>by
 rcases List.mem_cons.mp (I.stkSub b hb) with e|hb
 ·rw [e];exact I.free
 ·obtain ⟨_,o,ho,_⟩:=I.ok.funs.mem hb
  exact I.base.free b o ho (I.ok.frf b hb) fun z=>I.ok.exfs b z hb
theorem Inv.step {g':Array GenState}{t':Nat}{d':Drawn}{ch:List Addr}(I:Inv X pins σ H s)
 (hch:∀b∈ch,(b∈X.ex\/X.s₀.heap.objs.size<=b)/\b≠X.env.locals/\(∀x c,X.env.cells.lookup x=some c->c≠b)/\∀p∈X.pn++pins,p.1≠b)
 (keep:∀b o,b≠X.env.locals->b∉X.fs->b∉ch->s.heap.get? b=some o->H b=none->h'.get? b=some o)
 (slot:∀b o,b≠X.env.locals->b∈X.fs->b∉ch->s.heap.get? b=some o->H b=none->∃sl,h'.get? b=some {o with slots:=sl}) (free:∀b o,b∉ch->s.heap.get? b=some o->H b=none->H' b=none)
 (there:∀b o,b∉ch->s.heap.get? b=some o->∃o',h'.get? b=some o')
 (tups:∀b xs,H b=some (.tup xs)->H' b=some (.tup xs)) (frzs:∀b o u,H b=some (.frz o u)->H' b=some (.frz o u)) (tbls:∀b ps,H b=some (.tbl ps)->∃more,H' b=some (.tbl (ps++more)))
 (ns:∀m,s.heap.Ns X.env.locals m->h'.Ns X.env.locals m) (hok:HOk X.prog X.w H' h') (hg:AllBare g') :
 Inv X pins σ H' {s with heap:=h',gens:=g',drawn:=d',toks:=t'}:=by
 have neL:∀b o,X.s₀.heap.get? b=some o->b≠X.env.locals:=fun b o e=>tqk (tqi (tqd e) I.ok.above)
 have neC:∀b o,X.s₀.heap.get? b=some o->b∉X.ex->b∉ch:=fun b o e hx hb=>by
  rcases (hch b hb).1 with z|z
  ·exact hx z
  ·exact absurd (tqi (tqd e) z) (tqn _)
 have cellK:∀x c,X.env.cells.lookup x=some c->∀v,s.heap.IsCell c v->h'.IsCell c v:=fun x c e v ⟨o,ho,hd⟩=>by
  have nch:c∉ch:=fun z=>(hch c z).2.2.1 x c e rfl
  by_cases hc:c∈X.fs
  ·obtain ⟨sl,q⟩:=slot c o (I.cne x c e) hc nch ho (I.freeC x c e)
   exact ⟨_,q,hd⟩
  ·exact ⟨o,keep c o (I.cne x c e) hc nch ho (I.freeC x c e),hd⟩
 refine ⟨I.ok,I.os,hg,⟨fun b o e n hb hx=>?_,fun b o e n hb hx=>?_,fun b o e n hx=>?_,fun b o e hx=>?_,fun b xs e=>tups b xs (I.base.tups b xs e),fun b o xs e=>frzs b o xs (I.base.frzs b o xs e),fun b ps e=>?_⟩,?_,fun x c e=>?_,?_,fun x c e=>?_,fun p hp=>?_,hok,I.len⟩
 ·exact keep b o (neL b o e) hb (neC b o e hx) (I.base.keep b o e n hb hx) (I.base.free b o e n hx)
 ·obtain ⟨sl,e1⟩:=I.base.slot b o e n hb hx
  obtain ⟨sl',e2⟩:=slot b _ (neL b o e) hb (neC b o e hx) e1 (I.base.free b o e n hx)
  exact ⟨sl',e2⟩
 ·obtain ⟨o',e1⟩:=I.base.there b o e hx
  exact free b o' (neC b o e hx) e1 (I.base.free b o e n hx)
 ·obtain ⟨o',e1⟩:=I.base.there b o e hx
  exact there b o' (neC b o e hx) e1
 ·obtain ⟨m1,e1⟩:=I.base.tbls b ps e
  obtain ⟨m2,e2⟩:=tbls b _ e1
  exact ⟨m1++m2,by rw [e2,Array.append_assoc]⟩
 ·obtain ⟨m,hn,hl⟩:=I.loc
  refine ⟨m,ns m hn,fun i x v e1 e2 e3=>?_⟩
  obtain ⟨u,r,l⟩:=hl i x v e1 e2 e3
  refine ⟨u,r,?_⟩
  rcases l with l|⟨k,c,e,z⟩
  ·exact .inl l
  ·exact .inr ⟨k,c,e,cellK x c e _ z⟩
 ·obtain ⟨v,z⟩:=I.cell x c e
  exact ⟨v,cellK x c e v z⟩
 ·obtain ⟨m,⟨o,_,_,ho,_⟩,_⟩:=I.loc
  exact free _ o (fun z=>(hch _ z).2.1 rfl) ho I.free
 ·obtain ⟨v,o,ho,hd⟩:=I.cell x c e
  exact free c o (fun z=>(hch c z).2.2.1 x c e rfl) ho (I.freeC x c e)
 ·obtain ⟨e,n,ne,nf,d⟩:=I.pin p hp
  have nch:p.1∉ch:=fun z=>(hch p.1 z).2.2.2 p hp rfl
  exact ⟨keep p.1 p.2 ne nf nch e n,free p.1 p.2 nch e n,ne,nf,d⟩
theorem Inv.un {t':Nat}(I:Inv X pins σ H s)(u:Un X.fs [] H H' s.heap h')(hok:HOk X.prog X.w H' h'):Inv X pins σ H' {s with heap:=h',toks:=t'}:=by
 obtain ⟨m,⟨o,es,ep,ho,r⟩,_⟩:=id I.loc
 obtain ⟨sl,hL⟩:=u.any ho I.free (by simp)
 exact I.step (g':=s.gens) (d':=s.drawn) (ch:=[]) (fun _ z=>nomatch z) (fun b o _ hb _ e n=>u.keep b o e n hb (by simp)) (fun b o _ hb _ e n=>u.slot b o e n hb (by simp)) (fun b o _ e n=>u.free b o e n (by simp)) (fun b o _ e=>u.there b o e (by simp)) u.tups u.frzs u.tbls (fun m' hm=>by
  obtain ⟨o',es',ep',ho',r'⟩:=hm
  rw [ho] at ho';cases ho'
  exact ⟨_,es',ep',hL,r'⟩) hok I.bare
theorem Inv.call {g':Array GenState}{t':Nat}{d':Drawn}{ch:List Addr}(I:Inv X pins σ H s)(u:Un (frs X.stack) ch H H' s.heap h')(hok:HOk X.prog X.w H' h')(hg:AllBare g')
 (hch:∀b∈ch,(b∈X.ex\/X.s₀.heap.objs.size<=b)/\b≠X.env.locals/\(∀x c,X.env.cells.lookup x=some c->c≠b)/\∀p∈X.pn++pins,p.1≠b) :
 Inv X pins σ H' {s with heap:=h',gens:=g',drawn:=d',toks:=t'}:=by
 obtain ⟨m,⟨o,es,ep,ho,r⟩,_⟩:=id I.loc
 obtain ⟨sl,hL⟩:=u.any ho I.free fun z=>(hch _ z).2.1 rfl
 exact I.step (ch:=ch) hch (fun b o hL hb hc e n=>u.keep b o e n (fun z=>(List.mem_cons.mp (I.stkSub b z)).elim hL hb) hc) (fun b o _ _ hc e n=>u.any e n hc) (fun b o hc e n=>u.free b o e n hc) (fun b o hc e=>u.there b o e hc) u.tups u.frzs u.tbls (fun m' hm=>by
  obtain ⟨o',es',ep',ho',r'⟩:=hm
  rw [ho] at ho';cases ho'
  exact ⟨_,es',ep',hL,r'⟩) hok hg
theorem Inv.turned {t':Nat}{it:Addr}(I:Inv X pins σ H s)(k:∀b o,b≠it->s.heap.get? b=some o->h'.get? b=some o)(hn:H it=none)(hL:it≠X.env.locals)
 (h1:it∈X.ex\/X.s₀.heap.objs.size<=it) (h2:∀x c,X.env.cells.lookup x=some c->c≠it) (h3:∀p∈X.pn++pins,p.1≠it):Inv X pins σ H {s with heap:=h',toks:=t'}:=by
 have nit:∀b u,H b=some u->b≠it:=fun b u e z=>by rw [z,hn] at e;cases e
 refine I.step (g':=s.gens) (d':=s.drawn) (ch:=[it]) (fun b hb=>?_) (fun b o _ _ hc e _=>k b o (fun z=>hc (by simp [z])) e) (fun b o _ _ hc e _=>⟨o.slots,k b o (fun z=>hc (by simp [z])) e⟩) (fun _ _ _ _ n=>n)
  (fun b o hc e=>⟨o,k b o (fun z=>hc (by simp [z])) e⟩) (fun _ _ e=>e) (fun _ _ _ e=>e) (fun b ps e=>⟨#[],by rw [e];simp⟩) (fun m hm=>?_) (fun b u e=>?_) I.bare
 ·have e:b=it:=by simpa using hb
  subst e
  exact ⟨h1,hL,h2,h3⟩
 ·obtain ⟨o,es,ep,ho,r⟩:=hm
  exact ⟨o,es,ep,k _ o (Ne.symm hL) ho,r⟩
 ·refine (I.hok b u e).stay (fun c v hc q=>k c v ?_ q) (fun _ q=>q) fun _ _ q=>q
  rcases hc with z|z
  ·rw [z];exact nit b u e
  ·exact nit c _ z
theorem Inv.tok (I:Inv X pins σ H s)(t:Nat):Inv X pins σ H {s with toks:=t}:=I.un (h':=s.heap) (t':=t) Un.refl I.hok
theorem Inv.kept {t':Nat}(I:Inv X pins σ H s)(k:∀b u,s.heap.get? b=some u->h'.get? b=some u):Inv X pins σ H {s with heap:=h',toks:=t'}:=I.un (Un.kept k) (I.hok.kept k)
theorem Inv.laid {a:Addr}{o:HO}{t':Nat}(I:Inv X pins σ H s)(k:∀b u,s.heap.get? b=some u->h'.get? b=some u)(hp:s.heap.objs.size<=a)(new:zdb X.prog X.w (upd H a o) h' a o) :
 Inv X pins σ (upd H a o) {s with heap:=h',toks:=t'}:=I.un (Un.laid k hp (I.hok.fresh hp)) (I.hok.laid k hp new)
theorem Inv.write {x e:Addr}{o:HO}{t':Nat}(I:Inv X pins σ H s)(mu:Mut (H x))(he:e=x\/H e=some (.own x))(k:∀b u,b≠e->s.heap.get? b=some u->h'.get? b=some u)(heo:∃u,h'.get? e=some u)
 (new:zdb X.prog X.w (upd H x o) h' x o):Inv X pins σ (upd H x o) {s with heap:=h',toks:=t'}:=I.un (Un.write mu he k heo) (I.hok.write mu he k heo new)
theorem Inv.pins_of {pins':List (Addr×Obj)}(I:Inv X pins σ H s)(h:∀p∈pins',s.heap.get? p.1=some p.2/\H p.1=none/\p.1≠X.env.locals/\p.1∉X.fs/\∀v,p.2.data≠.cell v):Inv X pins' σ H s:=
 ⟨I.ok,I.os,I.bare,I.base,I.loc,I.cell,I.free,I.freeC,fun p hp=>(List.mem_append.mp hp).elim (fun z=>I.pin p (List.mem_append_left _ z)) (h p),I.hok,I.len⟩
theorem znm {N:List Str}(hN:N.Nodup){i j:Nat}{x:Str}(a:N[i]?=some x)(b:N[j]?=some x):i=j:=by
 obtain ⟨h1,e1⟩:=List.getElem?_eq_some_iff.mp a
 obtain ⟨h2,e2⟩:=List.getElem?_eq_some_iff.mp b
 exact (List.getElem_inj hN).mp (e1.trans e2.symm)
theorem zqf {M:Model}{A:Around}{E:Value->Shared->Prop}{i:Nat}{x:Str}{v:V}{u:Value}{Q:Unit->Shared->Prop}(I:Inv X pins σ H s)(hN:X.N.Nodup)(hi:X.N[i]?=some x)(hx:Loc X.env.scope x)(r:RelV v u)
 (h:∀s',Inv X pins (σ.set i (some v)) H s'->(∃a,Heap.SameBut a s.heap s'.heap/\(a=X.env.locals\/X.env.cells.lookup x=some a))->Q () s') (hf:X.fn x=true\/X.env.scope.names.lookup x=some .local:=by first|exact .inl rfl|exact .inr rfl|assumption):wpAny M A (storeName X.env x u) Q E s:=by
 obtain ⟨m,hn,hl⟩:=id I.loc
 have hcls:(X.env.scope.kind==.class||(X.env.scope.kind==.module&&X.env.locals != X.env.globals))=false:=by rw [I.ok.kind];rfl
 have hiσ:i<σ.length:=by rw [I.len];exact (List.getElem?_eq_some_iff.mp hi).1
 have cne:=I.cne
 have tracked:∀{a:Addr}{h':Heap},(∃o,s.heap.get? a=some o/\H a=none)->Heap.SameBut a s.heap h'->HOk X.prog X.w H h':=fun {a h'} ha hs b ob e=>by
  obtain ⟨_,_,hfree⟩:=ha
  refine (I.hok b ob e).stay (fun c w' hc q=>(hs.2 c ?_).trans q) (fun _ q=>q) fun _ _ q=>q
  rintro rfl
  rcases hc with rfl|hc
  ·rw [hfree] at e;cases e
  ·rw [hfree] at hc;cases hc
 rcases hx with hk|hk
 ·refine wpAny_storeName_local hk hn (fun h' hn' hs=>?_) hcls
  obtain ⟨oL,_,_,hoL,_⟩:=id hn
  refine h _ ⟨I.ok,I.os,I.bare,⟨fun b o e n hb hx=>?_,fun b o e n hb hx=>?_,I.base.free,fun b o e hx=>?_,I.base.tups,I.base.frzs,I.base.tbls⟩,⟨_,hn',fun j y v' e1 e2 e3=>?_⟩,fun y c e=>?_,I.free,I.freeC,fun p hp=>?_,tracked ⟨oL,hoL,I.free⟩ hs,by simpa using I.len⟩ ⟨_,hs,.inl rfl⟩
  ·exact (hs.2 b (tqk (tqi (tqd e) I.ok.above))).trans (I.base.keep b o e n hb hx)
  ·obtain ⟨sl,e1⟩:=I.base.slot b o e n hb hx
   exact ⟨sl,(hs.2 b (tqk (tqi (tqd e) I.ok.above))).trans e1⟩
  ·obtain ⟨o',e1⟩:=I.base.there b o e hx
   exact ⟨o',(hs.2 b (tqk (tqi (tqd e) I.ok.above))).trans e1⟩
  ·by_cases hj:j=i
   ·subst hj
    rw [hi] at e1;cases e1
    rw [List.getElem?_set_self hiσ] at e2
    cases e2
    exact ⟨u,r,.inl ⟨hk,by simp⟩⟩
   ·rw [List.getElem?_set_ne (Ne.symm hj)] at e2
    obtain ⟨u',r',q⟩:=hl j y v' e1 e2 e3
    refine ⟨u',r',?_⟩
    rcases q with ⟨k,e⟩|⟨k,c,e,z⟩
    ·refine .inl ⟨k,?_⟩
     have:y≠x:=fun e=>hj (znm hN e1 (e ▸ hi))
     simp [this,e]
    ·exact .inr ⟨k,c,e,z.sameBut hs (cne y c e)⟩
  ·obtain ⟨w',z⟩:=I.cell y c e
   exact ⟨w',z.sameBut hs (cne y c e)⟩
  ·obtain ⟨e,n,ne,nf,d⟩:=I.pin p hp
   exact ⟨(hs.2 p.1 ne).trans e,n,ne,nf,d⟩
 ·have hfn:X.fn x=true:=by
   rcases hf with z|z
   ·exact z
   ·rw [z] at hk;cases hk
  obtain ⟨c,hc⟩:=I.ok.has x (.inl hk)
  obtain ⟨w',z⟩:=I.cell x c hc
  refine wpAny_storeName_cell I.ok.kind hk hc z (fun h' hc' hs=>?_)
  obtain ⟨oc,hoc,hocd⟩:=id z
  refine h {s with heap:=h'} ⟨I.ok,I.os,I.bare,⟨fun b o e n hb hx=>?_,fun b o e n hb hx=>?_,I.base.free,fun b o e hx=>?_,I.base.tups,I.base.frzs,I.base.tbls⟩,⟨m,hn.sameBut hs (Ne.symm (cne x c hc)),fun j y v' e1 e2 e3=>?_⟩,fun y c' e=>?_,I.free,I.freeC,fun p hp=>?_,tracked ⟨oc,hoc,I.freeC x c hc⟩ hs,by simpa using I.len⟩ ⟨c,hs,.inr hc⟩
  ·exact (hs.2 b (tqk (tqi (tqd e) (I.ok.cab x c hfn hc)))).trans (I.base.keep b o e n hb hx)
  ·obtain ⟨sl,e1⟩:=I.base.slot b o e n hb hx
   exact ⟨sl,(hs.2 b (tqk (tqi (tqd e) (I.ok.cab x c hfn hc)))).trans e1⟩
  ·obtain ⟨o',e1⟩:=I.base.there b o e hx
   exact ⟨o',(hs.2 b (tqk (tqi (tqd e) (I.ok.cab x c hfn hc)))).trans e1⟩
  ·by_cases hj:j=i
   ·subst hj
    rw [hi] at e1;cases e1
    rw [List.getElem?_set_self hiσ] at e2
    cases e2
    exact ⟨u,r,.inr ⟨.inl hk,c,hc,hc'⟩⟩
   ·rw [List.getElem?_set_ne (Ne.symm hj)] at e2
    obtain ⟨u',r',q⟩:=hl j y v' e1 e2 e3
    refine ⟨u',r',?_⟩
    rcases q with q|⟨k,c',e,z'⟩
    ·exact .inl q
    ·refine .inr ⟨k,c',e,z'.sameBut hs ?_⟩
     rintro rfl
     exact hj (znm hN e1 (I.ok.inj _ _ _ e hc ▸ hi))
  ·by_cases hcc:c'=c
   ·subst hcc;exact ⟨_,hc'⟩
   ·obtain ⟨w2,z2⟩:=I.cell y c' e
    exact ⟨w2,z2.sameBut hs hcc⟩
  ·obtain ⟨e,n,ne,nf,d⟩:=I.pin p hp
   refine ⟨(hs.2 p.1 ?_).trans e,n,ne,nf,d⟩
   intro q
   rw [q,hoc] at e
   have q':oc=p.2:=Option.some.inj e
   exact d w' (by rw [<- q'];exact hocd)
theorem zr8 {M:Model}{A:Around}{E:Value->Shared->Prop}{i:Nat}{x:Str}{v:V}{u:Value}{Q:Unit->Shared->Prop}(I:Inv X pins σ H s)(hN:X.N.Nodup)(hi:X.N[i]?=some x)(hx:Loc X.env.scope x)(r:RelV v u)
 (h:∀s',Inv X pins (σ.set i (some v)) H s'->Q () s') (hf:X.fn x=true\/X.env.scope.names.lookup x=some .local:=by first|exact .inl rfl|exact .inr rfl|assumption):wpAny M A (storeName X.env x u) Q E s:=
 zqf I hN hi hx r (fun s' I' _=>h s' I') hf
theorem Inv.call' {s':Shared}{ch:List Addr}(I:Inv X pins σ H s)(ho:s'.os=s.os)(u:Un (frs X.stack) ch H H' s.heap s'.heap)(hok:HOk X.prog X.w H' s'.heap)(hg:AllBare s'.gens)
 (hch:∀b∈ch,(b∈X.ex\/X.s₀.heap.objs.size<=b)/\b≠X.env.locals/\(∀x c,X.env.cells.lookup x=some c->c≠b)/\∀p∈X.pn++pins,p.1≠b):Inv X pins σ H' s':=by
 obtain ⟨h',g',d',t',o'⟩:=s'
 have e:o'=s.os:=ho
 subst e
 exact I.call (g':=g') (t':=t') (d':=d') u hok hg hch
end
abbrev XK:=Value->Option Addr->Hp->Prop
abbrev St:=List (Option V)
abbrev VK:=V->Hp->Prop
abbrev TE:=St->Hp->VK->Prop
abbrev TT:=St->Hp->(Bool->Hp->Prop)->Prop
abbrev TA:=St->Hp->(List V->Hp->Prop)->Prop
structure Ends where
 nx:St->Hp->Prop
 rt:VK
 bk:St->Hp->Prop:=fun _ _=>False
 ct:St->Hp->Prop:=fun _ _=>False
abbrev TS:=Ends->St->Hp->Prop
def EP (X:Cx)(pins:List (Addr×Obj))(σ:St)(Q:VK)(u:Value)(s':Shared):Prop:=∃v H',Inv X pins σ H' s'/\RelV v u/\Q v H'
def TP (X:Cx)(pins:List (Addr×Obj))(σ:St)(Q:Bool->Hp->Prop)(b:Bool)(s':Shared):Prop:=∃H',Inv X pins σ H' s'/\Q b H'
def AP (X:Cx)(pins:List (Addr×Obj))(σ:St)(Q:List V->Hp->Prop)(us:List Value)(s':Shared):Prop:=∃vs H',Inv X pins σ H' s'/\Vals vs us/\Q vs H'
def SP (X:Cx)(pins:List (Addr×Obj))(D:Ends)(f:Flow)(s':Shared):Prop:=
 match f with
 |.next=>∃σ' H',Inv X pins σ' H' s'/\D.nx σ' H'
 |.brk=>∃σ' H',Inv X pins σ' H' s'/\D.bk σ' H'
 |.cont=>∃σ' H',Inv X pins σ' H' s'/\D.ct σ' H'
 |.ret u=>∃v σ' H',Inv X pins σ' H' s'/\RelV v u/\D.rt v H'
def PE (X:Cx)(e:Expr)(t:TE):Prop:=
 ∀(pins:List (Addr×Obj)) (s:Shared) (σ:St) (H:Hp) (Q:VK),Inv X pins σ H s->t σ H Q->wpAny (model X.prog X.w) X.A (eval e X.env) (EP X pins σ Q) X.xe s
def PT (X:Cx)(e:Expr)(t:TT):Prop:=
 ∀(pins:List (Addr×Obj)) (s:Shared) (σ:St) (H:Hp) (Q:Bool->Hp->Prop),Inv X pins σ H s->t σ H Q->wpAny (model X.prog X.w) X.A (isTrue e X.env (eval e X.env)) (TP X pins σ Q) X.xe s
def PW (X:Cx)(e:Expr)(t:TT):Prop:=
 ∀(whole:Sem Value) (pins:List (Addr×Obj)) (s:Shared) (σ:St) (H:Hp) (Q:Bool->Hp->Prop),Inv X pins σ H s->t σ H Q->wpAny (model X.prog X.w) X.A (isTrue e X.env whole) (TP X pins σ Q) X.xe s
theorem PW.pt {X:Cx}{e:Expr}{t:TT}(h:PW X e t):PT X e t:=h _
def PA (X:Cx)(es:List Expr)(t:TA):Prop:=
 ∀(pos:Pos) (pins:List (Addr×Obj)) (s:Shared) (σ:St) (H:Hp) (Q:List V->Hp->Prop),Inv X pins σ H s->t σ H Q->wpAny (model X.prog X.w) X.A (spliced (backTo pos (starEach es X.env))) (AP X pins σ Q) X.xe s
def PS (X:Cx)(st:Stmt)(t:TS):Prop:=
 ∀(pins:List (Addr×Obj)) (s:Shared) (σ:St) (H:Hp) (D:Ends),Inv X pins σ H s->t D σ H->wpAny (model X.prog X.w) X.A (exec st X.env) (SP X pins D) X.xe s
def PSs (X:Cx)(st:List Stmt)(t:TS):Prop:=
 ∀(pins:List (Addr×Obj)) (s:Shared) (σ:St) (H:Hp) (D:Ends),Inv X pins σ H s->t D σ H->wpAny (model X.prog X.w) X.A (execs st X.env) (SP X pins D) X.xe s
theorem thn {α:Type}{t:Sem α}{Q Q':α->Shared->Prop}{M:Model}{A:Around}{E:Value->Shared->Prop}{s:Shared}(h:wpAny M A t Q E s)(hQ:∀a s,Q a s->Q' a s):wpAny M A t Q' E s:=wpAny_mono h hQ fun _ _ x=>x
end L2
namespace L2
open PySem PySem.Spec PyProof.Rows
section
variable {X:Cx}
theorem bin {a b:Expr}{ta tb:TE}(ha:PE X a ta)(hb:PE X b tb){pins:List (Addr×Obj)}{s:Shared}{σ:St}{H:Hp}{R:V->V->Hp->Prop}(I:Inv X pins σ H s)(h:ta σ H fun x H1=>tb σ H1 fun y H2=>R x y H2)
 {α:Type}{Q:α->Shared->Prop}{f:Value->Value->Sem α}
 (hf:∀v u s2 x y H2,Inv X pins σ H2 s2->RelV x v->RelV y u->R x y H2->wpAny (model X.prog X.w) X.A (f v u) Q X.xe s2) :
 wpAny (model X.prog X.w) X.A (eval a X.env) (fun v s₁=>wpAny (model X.prog X.w) X.A (eval b X.env) (fun u s₂=>wpAny (model X.prog X.w) X.A (f v u) Q X.xe s₂) X.xe s₁) X.xe s:=by
 refine thn (ha pins s σ H _ I h) fun v s1 ⟨x,H1,I1,r1,q1⟩=>?_
 refine thn (hb pins s1 σ H1 _ I1 q1) fun u s2 ⟨y,H2,I2,r2,q2⟩=>?_
 exact hf v u s2 x y H2 I2 r1 r2 q2
def tVar (i:Nat):TE:=fun σ H Q=>∃v,σ[i]?=some (some v)/\Q v H
def tC (v:V):TE:=fun _ H Q=>Q v H
theorem zn8 {i:Nat}{x:Str}{pos:Pos}(hN:X.N[i]?=some x)(hv:Vis X.env.scope x)(hd:(x==("__debug__":Str))=false:=by decide)(hcd:(x==("__classdict__":Str))=false:=by decide):PE X (.Name x pos) (tVar i):=by
 intro pins s σ H Q I h
 obtain ⟨v,e,h⟩:=h
 obtain ⟨m,hn,hl⟩:=I.loc
 obtain ⟨u,r,l⟩:=hl i x v hN e hv
 have fin:EP X pins σ Q u s:=⟨v,H,I,r,h⟩
 rcases l with ⟨hk,hm⟩|⟨hk,c,hc,hcell⟩
 ·exact wpAny_Name (wpAny_loadName_local I.ok.kind hk hn hm fin) hd
 ·rcases hk with hk|hk
  ·exact wpAny_Name (wpAny_loadName_cell I.ok.kind hk hc hcell fin) hd
  ·exact wpAny_Name (wpAny_loadName_free I.ok.kind hk hc hcell fin hcd) hd
theorem zxz {i j pos}:PE X (.Constant (.int i) j pos) (tC (.int i)):=fun _ _ _ H _ I h=>wpAny_Constant_int ⟨.int i,H,I.tok _,⟨_,rfl⟩,h⟩
theorem zvr {b j pos}:PE X (.Constant (.bool b) j pos) (tC (.bl b)):=fun _ _ _ H _ I h=>Constant_bool ⟨.bl b,H,I,rfl,h⟩
theorem pe_non {j pos}:PE X (.Constant .none j pos) (tC .non):=fun _ _ _ H _ I h=>Constant_none ⟨.non,H,I,rfl,h⟩
theorem pe_str {x j pos}:PE X (.Constant (.str x) j pos) (tC (.str x)):=fun _ _ _ H _ I h=>Calls.Constant_str ⟨.str x,H,I.tok _,⟨_,rfl⟩,h⟩
def Gl (X:Cx)(x:Str):Prop:=X.env.kindOf x=some .globalImplicit
theorem zhu {E:Value->Shared->Prop}{pins:List (Addr×Obj)}{s:Shared}{σ:St}{H:Hp}{x:Str}{u:Value}{pos:Pos}{Q:Value->Shared->Prop}(I:Inv X pins σ H s)(hg:Gl X x)(hm:X.mg x=some u)(h:Q u s)
 (hd:(x==("__debug__":Str))=false:=by decide):wpAny (model X.prog X.w) X.A (eval (.Name x pos) X.env) Q E s:=
 Calls.Name_function_global I.ok.kind hg (Calls.loadGlobal_global (by rw [I.ok.glob];exact I.mod.glob.keeps I.bk) hm h) hd
theorem zia {E:Value->Shared->Prop}{pins:List (Addr×Obj)}{s:Shared}{σ:St}{H:Hp}{x:Str}{u:Value}{pos:Pos}{Q:Value->Shared->Prop}(I:Inv X pins σ H s)(hg:Gl X x)(hm:X.mg x=none)(hv:bootBuiltins x=some u)(h:Q u s)
 (hn:x≠"__name__":=by decide) (hd:(x==("__debug__":Str))=false:=by decide):wpAny (model X.prog X.w) X.A (eval (.Name x pos) X.env) Q E s:=by
 obtain ⟨mb,h1,h2⟩:=I.mod.blt
 exact Calls.Name_function_global I.ok.kind hg (Calls.loadGlobal_builtin (by rw [I.ok.glob];exact I.mod.glob.keeps I.bk) hm (by rw [I.ok.blt];exact h1.keeps I.bk) ((h2 x hn).trans hv) h) hd
theorem zkm {x:Str}{v:V}{u:Value}{pos:Pos}(hg:Gl X x)(hm:X.mg x=some u)(r:RelV v u)(hd:(x==("__debug__":Str))=false:=by decide):PE X (.Name x pos) (tC v):=
 fun _ _ _ H _ I h=>zhu I hg hm ⟨v,H,I,r,h⟩ hd
theorem zu0 {x:Str}{v:V}{u:Value}{pos:Pos}(hg:Gl X x)(hm:X.mg x=none)(hv:bootBuiltins x=some u)(r:RelV v u)(hn:x≠"__name__":=by decide)(hd:(x==("__debug__":Str))=false:=by decide):PE X (.Name x pos) (tC v):=
 fun _ _ _ H _ I h=>zia I hg hm hv ⟨v,H,I,r,h⟩ hn hd
variable {a b:Expr}{ta tb:TE}{pos:Pos}
variable {tA tB':TT}{rest:List Expr}
def zhm (t u:TT):TT:=fun σ H Q=>t σ H fun c H1=>if c=true then u σ H1 Q else Q false H1
def tOr (t u:TT):TT:=fun σ H Q=>t σ H fun c H1=>if c=true then Q true H1 else u σ H1 Q
def zb7 (t:TT):TT:=fun σ H Q=>t σ H fun c H1=>Q (!c) H1
theorem z3w (ha:PT X a tA):PW X (.BoolOp .And [a] pos) tA:=by
 intro wh pins s σ H Q I h
 refine isTrue_and (thn (ha pins s σ H Q I h) fun c s1 e=>?_)
 cases c with
 |true=>exact isTrue_and_nil e
 |false=>exact e
theorem pw_or1 (ha:PT X a tA):PW X (.BoolOp .Or [a] pos) tA:=by
 intro wh pins s σ H Q I h
 refine isTrue_or (thn (ha pins s σ H Q I h) fun c s1 e=>?_)
 cases c with
 |false=>exact isTrue_or_nil e
 |true=>exact e
theorem pw_and (ha:PT X a tA)(hb:PW X (.BoolOp .And (b::rest) pos) tB'):PW X (.BoolOp .And (a::b::rest) pos) (zhm tA tB'):=by
 intro wh pins s σ H Q I h
 refine isTrue_and (thn (ha pins s σ H _ I h) fun c s1 ⟨H1,I1,q1⟩=>?_)
 cases c with
 |true=>exact hb wh pins s1 σ H1 Q I1 q1
 |false=>exact ⟨H1,I1,q1⟩
theorem pw_or (ha:PT X a tA)(hb:PW X (.BoolOp .Or (b::rest) pos) tB'):PW X (.BoolOp .Or (a::b::rest) pos) (tOr tA tB'):=by
 intro wh pins s σ H Q I h
 refine isTrue_or (thn (ha pins s σ H _ I h) fun c s1 ⟨H1,I1,q1⟩=>?_)
 cases c with
 |true=>exact ⟨H1,I1,q1⟩
 |false=>exact hb wh pins s1 σ H1 Q I1 q1
theorem pt_not (ha:PT X a tA):PT X (.UnaryOp .Not a pos) (zb7 tA):=by
 intro pins s σ H Q I h
 exact isTrue_not (ha pins s σ H (fun c H1=>Q (!c) H1) I h)
def tAndV (ta tb:TE):TE:=fun σ H Q=>ta σ H fun x H1=>∃c,x=.bl c/\if c=true then tb σ H1 Q else Q (.bl false) H1
def tNotV (ta:TE):TE:=fun σ H Q=>ta σ H fun x H1=>∃c,x=.bl c/\Q (.bl (!c)) H1
theorem pe_one {op}{t:TE}(h:PE X a t):PE X (.BoolOp op [a] pos) t:=fun pins s σ H Q I hw=>BoolOp_one (h pins s σ H Q I hw)
theorem pe_and (ha:PE X a ta)(hb:PE X (.BoolOp .And (b::rest) pos) tb):PE X (.BoolOp .And (a::b::rest) pos) (tAndV ta tb):=by
 intro pins s σ H Q I h
 refine BoolOp_and (thn (ha pins s σ H _ I h) fun v s1 ⟨x,H1,I1,r1,q1⟩=>?_)
 obtain ⟨c,rfl,q1⟩:=q1
 cases r1
 refine tqp ?_
 cases c with
 |true=>exact hb pins s1 σ H1 Q I1 q1
 |false=>exact ⟨.bl false,H1,I1,rfl,q1⟩
theorem pe_not (ha:PE X a ta):PE X (.UnaryOp .Not a pos) (tNotV ta):=by
 intro pins s σ H Q I h
 refine UnaryOp_ (thn (ha pins s σ H _ I h) fun v s1 ⟨x,H1,I1,r1,q1⟩=>?_)
 obtain ⟨c,rfl,q1⟩:=q1
 cases r1
 exact not_of (tqp ⟨.bl (!c),H1,I1,rfl,q1⟩)
def tIf (t:TT)(ta tb:TE):TE:=fun σ H Q=>t σ H fun c H1=>if c=true then ta σ H1 Q else tb σ H1 Q
theorem z0k {c:Expr}(hc:PT X c tA)(ha:PE X a ta)(hb:PE X b tb):PE X (.IfExp c a b pos) (tIf tA ta tb):=by
 intro pins s σ H Q I h
 refine wpAny_IfExp (thn (hc pins s σ H _ I h) fun d s1 ⟨H1,I1,q1⟩=>?_)
 cases d with
 |true=>exact ha pins s1 σ H1 Q I1 q1
 |false=>exact hb pins s1 σ H1 Q I1 q1
end
end L2
namespace L2
open PySem PySem.Spec PyProof.Rows
def SqL (K:PySem.W.Frag)(H:Hp)(a:Addr)(xs:List V):Prop:=
 Rd H a (.lst xs)\/
  ∃(o:Obj) (its:Array Value) (n:Nat),K.lookup a=some o/\o.cls=.type "list"/\o.dict=none/\o.data=.seq its n/\its.size<=sizeLine/\Vals xs its.toList
def SqT (K:PySem.W.Frag)(H:Hp)(a:Addr)(xs:List V):Prop:=
 Rd H a (.tup xs)\/
  ∃(o:Obj) (its:Array Value) (n:Nat),K.lookup a=some o/\o.cls=.type "tuple"/\o.data=.seq its n/\its.size<=sizeLine/\Vals xs its.toList
def absV:Value->Option V
 |.none=>some .non
 |.bool b=>some (.bl b)
 |.int i _=>some (.int i)
 |.str x _=>some (.str x)
 |.bytes b _=>some (.byt b)
 |.float b _=>some (.flt b)
 |.ref a=>some (.ref a)
 |.type n=>some (.ty n)
 |_=>none
theorem RelV.abs {x:V}{u:Value}(r:RelV x u):absV u=some x:=by
 cases x with
 |non=>cases r;rfl
 |bl _=>cases r;rfl
 |int _=>obtain ⟨t,rfl⟩:=r;rfl
 |str _=>obtain ⟨t,rfl⟩:=r;rfl
 |byt _=>obtain ⟨t,rfl⟩:=r;rfl
 |flt _=>obtain ⟨t,rfl⟩:=r;rfl
 |ref _=>cases r;rfl
 |ty _=>cases r;rfl
theorem RelV.inj {x y:V}{u:Value}(r:RelV x u)(q:RelV y u):x=y:=Option.some.inj (r.abs.symm.trans q.abs)
theorem Vals.inj:∀{xs ys:List V}{us:List Value},Vals xs us->Vals ys us->xs=ys
 |_,_,_,.nil,.nil=>rfl
 |_,_,_,.cons r t,.cons r' t'=>by rw [r.inj r',Vals.inj t t']
section
variable {X:Cx}{pins:List (Addr×Obj)}{σ:St}{H:Hp}{s:Shared}{a:Addr}{xs ys:List V}
theorem SqL.of {K:PySem.W.Frag}(h:H a=some (.lst xs)):SqL K H a xs:=.inl (.inl h)
theorem SqT.of {K:PySem.W.Frag}(h:H a=some (.tup xs)):SqT K H a xs:=.inl (.inl h)
theorem Inv.list (I:Inv X pins σ H s)(h:SqL X.K H a xs):∃its:List Value,Vals xs its/\PlainL s.heap a its.toArray/\xs.length<=sizeLine:=by
 rcases h with h|⟨o,its,n,hk,hc,hd,hs,hz,r⟩
 ·obtain ⟨z,its,n,r,e⟩:=h.ok I.hok
  exact ⟨its,r,⟨_,n,e,rfl,rfl,rfl⟩,z⟩
 ·refine ⟨its.toList,r,⟨o,n,I.kIn a o hk,hc,hd,by simpa using hs⟩,?_⟩
  have e:=r.length
  simp only [Array.length_toList] at e
  omega
theorem Inv.tuple (I:Inv X pins σ H s)(h:SqT X.K H a xs):∃its:List Value,Vals xs its/\IsTup s.heap a its.toArray/\xs.length<=sizeLine:=by
 rcases h with h|⟨o,its,n,hk,hc,hs,hz,r⟩
 ·obtain ⟨z,its,r,p⟩:=h.ok I.hok
  exact ⟨its,r,p,z⟩
 ·refine ⟨its.toList,r,⟨o,I.kIn a o hk,hc,n,by simpa using hs⟩,?_⟩
  have e:=r.length
  simp only [Array.length_toList] at e
  omega
theorem Inv.list_inj (I:Inv X pins σ H s)(h:SqL X.K H a xs)(h':SqL X.K H a ys):xs=ys:=by
 obtain ⟨its,r,⟨o,n,e,_,_,d⟩,_⟩:=I.list h
 obtain ⟨its',r',⟨o',n',e',_,_,d'⟩,_⟩:=I.list h'
 rw [e] at e';cases e'
 rw [d] at d'
 injection d' with d1 _
 have:its=its':=by simpa using congrArg Array.toList d1
 subst this
 exact r.inj r'
theorem Inv.tuple_inj (I:Inv X pins σ H s)(h:SqT X.K H a xs)(h':SqT X.K H a ys):xs=ys:=by
 obtain ⟨its,r,⟨o,e,_,n,d⟩,_⟩:=I.tuple h
 obtain ⟨its',r',⟨o',e',_,n',d'⟩,_⟩:=I.tuple h'
 rw [e] at e';cases e'
 rw [d] at d'
 injection d' with d1 _
 have:its=its':=by simpa using congrArg Array.toList d1
 subst this
 exact r.inj r'
end
section
variable {X:Cx}{st:Stmt}{rest:List Stmt}{t u:TS}{e:Expr}{te:TE}{pos:Pos}
def tNext:TS:=fun D σ H=>D.nx σ H
def tSeq (t u:TS):TS:=fun D σ H=>t {D with nx:=u D} σ H
theorem zuv:PSs X [] tNext:=fun _ _ σ H _ I h=>wpAny_execs_nil ⟨σ,H,I,h⟩
theorem znj (h1:PS X st t)(h2:PSs X rest u):PSs X (st::rest) (tSeq t u):=by
 intro pins s σ H D I h
 refine wpAny_execs_cons (thn (h1 pins s σ H {D with nx:=u D} I h) fun f s1 q=>?_)
 cases f with
 | next =>
   obtain ⟨σ',H',I',q⟩:=q
   exact h2 pins s1 σ' H' D I' q
 |ret v=>exact q
 |brk=>exact q
 |cont=>exact q
theorem z3z:PS X (.Pass pos) tNext:=fun _ _ σ H _ I h=>wpAny_Pass ⟨σ,H,I,h⟩
theorem Inv.quiet {pins:List (Addr×Obj)}{σ:St}{H:Hp}{s:Shared}(I:Inv X pins σ H s):interactive X.env=false:=by simp [interactive,I.ok.kind]
def tDrop (te:TE):TS:=fun D σ H=>te σ H fun _ H1=>D.nx σ H1
theorem zpc (he:PE X e te)(hs:swapsWith e none pos.line X.env=pure false:=by rfl):PS X (.Expr e pos) (tDrop te):=by
 intro pins s σ H D I h
 exact wpAny_Expr_any (thn (he pins s σ H _ I h) fun v s1 ⟨x,H1,I1,r1,q1⟩=>⟨σ,H1,I1,q1⟩) I.quiet hs
def tRet (te:TE):TS:=fun D σ H=>te σ H D.rt
theorem ps_ret (he:PE X e te):PS X (.Return (some e) pos) (tRet te):=by
 intro pins s σ H D I h
 exact wpAny_Return_some (thn (he pins s σ H _ I h) fun v s1 ⟨x,H1,I1,r1,q1⟩=>⟨x,σ,H1,I1,r1,q1⟩)
def tIfS (c:TT)(t u:TS):TS:=fun D σ H=>c σ H fun b H1=>if b=true then t D σ H1 else u D σ H1
theorem ps_if {c:Expr}{a b:List Stmt}{tc:TT}(hc:PT X c tc)(ha:PSs X a t)(hb:PSs X b u):PS X (.If c a b pos) (tIfS tc t u):=by
 intro pins s σ H D I h
 refine wpAny_If (thn (hc pins s σ H _ I h) fun d s1 ⟨H1,I1,q1⟩=>?_)
 cases d with
 |true=>exact ha pins s1 σ H1 D I1 q1
 |false=>exact hb pins s1 σ H1 D I1 q1
end
abbrev TG:=V->St->Hp->(St->Hp->Prop)->Prop
abbrev TGs:=List V->St->Hp->(St->Hp->Prop)->Prop
def PG (X:Cx)(target:Expr)(t:TG):Prop:=
 ∀ (pins : List (Addr × Obj)) (s : Shared) (σ : St) (H : Hp) (v : V) (u : Value) (Q : St -> Hp -> Prop), Inv X pins σ H s -> RelV v u -> t v σ H Q ->
   wpAny (model X.prog X.w) X.A (assign target X.env u) (fun _ s'=>∃σ' H',Inv X pins σ' H' s'/\Q σ' H') X.xe s
def PGs (X:Cx)(ts:List Expr)(t:TGs):Prop:=
 ∀ (pins : List (Addr × Obj)) (s : Shared) (σ : St) (H : Hp) (vs : List V) (us : List Value) (Q : St -> Hp -> Prop), Inv X pins σ H s -> Vals vs us -> t vs σ H Q ->
   wpAny (model X.prog X.w) X.A (assignInOrder ((assignEach ts X.env).map (·.2)) us) (fun _ s'=>∃σ' H',Inv X pins σ' H' s'/\Q σ' H') X.xe s
abbrev TSet:=V->V->V->Hp->(Hp->Prop)->Prop
def PSet (X:Cx)(t:TSet):Prop:=
 ∀ (pins : List (Addr × Obj)) (s : Shared) (σ : St) (H : Hp) (o i v : V) (ov iv u : Value) (Q : Hp -> Prop), Inv X pins σ H s -> RelV o ov -> RelV i iv -> RelV v u -> t o i v H Q ->
   wpAny (model X.prog X.w) X.A (setItem ov iv u) (fun _ s'=>∃H',Inv X pins σ H' s'/\Q H') X.xe s
section
variable {X:Cx}{pos:Pos}
def gName (i:Nat):TG:=fun v σ H Q=>Q (σ.set i (some v)) H
theorem zuz {i:Nat}{x:Str}(hN:X.N.Nodup)(hi:X.N[i]?=some x)(hx:Loc X.env.scope x)(hf:X.fn x=true\/X.env.scope.names.lookup x=some .local:=by first|exact .inl rfl|exact .inr rfl|assumption):PG X (.Name x pos) (gName i):=by
 intro pins s σ H v u Q I r h
 exact wpAny_assign_Name (zr8 I hN hi hx r (fun s' I'=>⟨_,H,I',h⟩) hf)
def zaj:TGs:=fun vs σ H Q=>vs=[]/\Q σ H
def zaa (t:TG)(u:TGs):TGs:=fun vs σ H Q=>∃v r,vs=v::r/\t v σ H fun σ' H'=>u r σ' H' Q
theorem z34:PGs X [] zaj:=by
 intro pins s σ H vs us Q I r h
 obtain ⟨e,h⟩:=h
 subst e
 cases r
 exact assignInOrder_nil ⟨σ,H,I,h⟩
theorem z0j {e:Expr}{es:List Expr}{t:TG}{u:TGs}(h1:PG X e t)(h2:PGs X es u)
 (hs:(assignEach (e::es) X.env).map (·.2)=assign e X.env::(assignEach es X.env).map (·.2):=by rfl):PGs X (e::es) (zaa t u):=by
 intro pins s σ H vs us Q I r h
 obtain ⟨v,vr,e1,h⟩:=h
 subst e1
 cases r with
 | cons r rr =>
   rw [hs]
   refine assignInOrder_cons (thn (h1 pins s σ H _ _ _ I r h) fun _ s1 ⟨σ1,H1,I1,q1⟩=>?_)
   exact h2 pins s1 σ1 H1 _ _ Q I1 rr q1
def zc4 (K:PySem.W.Frag)(n:Nat)(t:TGs):TG:=fun v σ H Q=>∃a xs,v=.ref a/\SqT K H a xs/\xs.length=n/\t xs σ H Q
theorem pg_tup {es:List Expr}{k:Nat}{t:TGs}{n:Nat}(hc:X.calm=true)(h:PGs X es t)
 (hn:(assignEach es X.env).length=n:=by rfl) (hst:(assignEach es X.env).findIdx? (·.1)=none:=by rfl):PG X (.Tuple es k pos) (zc4 X.K n t):=by
 intro pins s σ H v u Q I r hw
 obtain ⟨a,xs,e1,hq,hl,hw⟩:=hw
 subst e1
 cases r
 obtain ⟨its,rv,ht,hz⟩:=I.tuple hq
 refine assign_Tuple_tuple (I.ok.hd hc) ht (by simp [hn,<- hl,rv.length]) hst fun h' hx=>?_
 have I1:Inv X pins σ H {s with heap:=h'}:=I.kept (t':=s.toks) fun b o e=>hx b o (tqk (tqd e)) e
 exact h pins _ σ H xs _ Q I1 (by simpa using rv) hw
def gSub (to ti:TE)(t:TSet):TG:=fun v σ H Q=>to σ H fun o H1=>ti σ H1 fun i H2=>t o i v H2 fun H3=>Q σ H3
theorem pg_sub {o i:Expr}{to ti:TE}{t:TSet}(ho:PE X o to)(hi:PE X i ti)(hs:PSet X t)
 (ha:∀v,assign (.Subscript o i pos) X.env v=(do
  let ov <- holding [v] (eval o X.env)
  let iv <- holding [v,ov] (eval i X.env)
  standAt pos
  holding [v,ov,iv] (setItem ov iv v)
  release [v,ov,iv] []):=by intro _;rfl):PG X (.Subscript o i pos) (gSub to ti t):=by
 intro pins s σ H v u Q I r h
 rw [ha]
 refine tqa (tqo (thn (ho pins s σ H _ I h) fun ov s1 ⟨x,H1,I1,r1,q1⟩=>?_))
 refine tqa (tqo (thn (hi pins s1 σ H1 _ I1 q1) fun iv s2 ⟨y,H2,I2,r2,q2⟩=>?_))
 refine tqa (wpAny_standAt (tqa (tqo (thn (hs pins s2 σ H2 x y v ov iv u _ I2 r1 r2 r q2) fun _ s3 ⟨H3,I3,q3⟩=>?_))))
 exact wpAny_release ⟨σ,H3,I3,q3⟩
def tAsg (te:TE)(g:TG):TS:=fun D σ H=>te σ H fun x H1=>g x σ H1 D.nx
theorem zsp {tg e:Expr}{te:TE}{g:TG}(he:PE X e te)(hg:PG X tg g)(hs:swapsWithSole [tg] e pos.line X.env=pure false:=by rfl)(hw:swappedStores [tg] e X.env=pure none:=by rfl)
 (h1:(assignEach [tg] X.env).map (·.2)=[assign tg X.env]:=by rfl):PS X (.Assign [tg] e pos) (tAsg te g):=by
 intro pins s σ H D I h
 refine wpAny_Assign_stores (thn (he pins s σ H _ I h) fun v s1 ⟨x,H1,I1,r1,q1⟩=>?_) hs hw
 rw [h1]
 exact thn (hg pins s1 σ H1 x v _ I1 r1 q1) fun _ s2 q=>q
end
structure It where
 go:Nat->Hp->Prop
 yld:Nat->Hp->V->Hp->Prop
 stop:Nat->Hp->Prop
def zf8 (X:Cx)(pins:List (Addr×Obj))(H:Hp)(b:Addr):Prop:=
 H b=none/\b≠X.env.locals/\b∉X.fs/\(b∈X.ex\/X.s₀.heap.objs.size<=b)/\(∀x c,X.env.cells.lookup x=some c->c≠b)/\∀p∈X.pn++pins,p.1≠b
theorem Inv.fpOk {X:Cx}{pins:List (Addr×Obj)}{σ:St}{H H':Hp}{s:Shared}{b:Addr}(I:Inv X pins σ H s)(hb:s.heap.objs.size<=b)(hn:H' b=none):zf8 X pins H' b:=by
 refine ⟨hn,Nat.ne_of_gt (tqi I.lt hb),I.nofs hb,.inr (tqh I.sz hb),fun x c e z=>?_,fun p hp z=>?_⟩
 ·obtain ⟨v,q⟩:=I.cell x c e
  exact absurd (tqi q.lt (by rw [z];exact hb)) (tqn _)
 ·exact absurd (tqi (tqd (I.pin p hp).1) (by rw [z];exact hb)) (tqn _)
structure Turn (P:Program) (w:World) (K:PySem.W.Frag) (tg:Expr) (J:It) (fp:List Addr) (it:Addr) (tn:Nat->Heap->Prop):Prop where
 mem:it∈fp
 obj:∀i h,tn i h->∀b∈fp,∃o,h.get? b=some o/\∀v,o.data≠.cell v
 keep:∀i h h',tn i h->(∀b∈fp,∀o,h.get? b=some o->h'.get? b=some o)->tn i h'
 item:∀(X:Cx),X.prog=P->X.w=w->X.K=K->X.calm=true->∀(i:Nat) (pins:List (Addr×Obj)) (s:Shared) (σ:St) (H:Hp) (E:Value->Shared->Prop),Inv X pins σ H s->(∀b∈fp,zf8 X pins H b)->tn i s.heap->J.go i H->
  wpAny (model P w) X.A (pyNext (.ref it)) (fun r s1=>∃u,r=some u/\
   wpAny (model P w) X.A (letOwnedTupleGo tg (.ref it) u) (fun _ s2=>∃x H',Inv X pins σ H' s2/\RelV x u/\J.yld i H x H'/\tn (i+1) s2.heap/\∀b∈fp,H' b=none) E s1) E s
 done:∀(X:Cx),X.prog=P->X.w=w->X.K=K->X.calm=true->∀(i:Nat) (pins:List (Addr×Obj)) (s:Shared) (σ:St) (H:Hp) (E:Value->Shared->Prop),Inv X pins σ H s->(∀b∈fp,zf8 X pins H b)->tn i s.heap->J.stop i H->
  wpAny (model P w) X.A (pyNext (.ref it)) (fun r s1=>r=none/\Inv X pins σ H s1) E s
 self:∀(A:Around) (i:Nat) (s:Shared) (Q:Value->Shared->Prop) (E:Value->Shared->Prop),tn i s.heap->Q (.ref it) s->wpAny (model P w) A (pyIter (.ref it)) Q E s
abbrev TI:=St->Hp->(It->Hp->Prop)->Prop
def PIE (X:Cx)(pins:List (Addr×Obj))(σ:St)(tg:Expr)(R:It->Hp->Prop)(itv:Value)(s2:Shared):Prop:=
 ∃(it:Addr) (fp:List Addr) (tn:Nat->Heap->Prop) (J:It) (H':Hp),itv=.ref it/\Inv X pins σ H' s2/\Turn X.prog X.w X.K tg J fp it tn/\tn 0 s2.heap/\(∀b∈fp,zf8 X pins H' b)/\R J H'
def PI (X:Cx)(tg iter:Expr)(wi:TI):Prop:=
 ∀ (pins : List (Addr × Obj)) (s : Shared) (σ : St) (H : Hp) (R : It -> Hp -> Prop), Inv X pins σ H s -> wi σ H R ->
   wpAny (model X.prog X.w) X.A (eval iter X.env) (fun v s1=>wpAny (model X.prog X.w) X.A (pyIter v) (PIE X pins σ tg R) X.xe s1) X.xe s
theorem zrq {M:Model}{A:Around}{E:Value->Shared->Prop}{s:Shared}{tg:Expr}{it:Addr}{u:Value}{o:Obj}{n:String}{vs:Array Value}{Q:Unit->Shared->Prop}(ho:s.heap.get? it=some o)(hc:o.cls=.type n)(hd:o.data=.fields vs)
 (hn:["enumerate","zip","dict_itemiterator","dict_reverseitemiterator","odict_iterator","itertools.zip_longest","itertools.pairwise"].contains n=false) (hQ:Q () s):wpAny M A (letOwnedTupleGo tg (.ref it) u) Q E s:=by
 unfold letOwnedTupleGo
 cases tg<;>first
  |exact tqb hQ
  |(cases u<;>first
   |exact tqb hQ
   | (refine tqa (wpAny_load ho ?_)
      rw [hc,hd]
      show wpAny M A (if (["enumerate","zip","dict_itemiterator","dict_reverseitemiterator","odict_iterator","itertools.zip_longest","itertools.pairwise"].contains n&&vs[0]?==some (rawInt _))=true then _ else _) Q E s
      rw [if_neg (by intro h;rw [hn,Bool.false_and] at h;cases h)]
      exact tqb hQ))
def Itl (K:PySem.W.Frag)(a:Addr):It:=
 ⟨fun i H=>∃xs x,SqL K H a xs/\xs[i]?=some x,fun i H x H'=>H'=H/\∀xs,SqL K H a xs->xs[i]?=some x,fun i H=>∃xs,SqL K H a xs/\xs.length<=i⟩
def Itt (K:PySem.W.Frag)(a:Addr):It:=
 ⟨fun i H=>∃xs x,SqT K H a xs/\xs[i]?=some x,fun i H x H'=>H'=H/\∀xs,SqT K H a xs->xs[i]?=some x,fun i H=>∃xs,SqT K H a xs/\xs.length<=i⟩
def Itr (lo:Int)(n:Nat):It:=⟨fun i _=>i<n,fun i H x H'=>H'=H/\x=.int (lo+i),fun i _=>n<=i⟩
theorem zxb {P:Program}{w:World}{K:PySem.W.Frag}{tg:Expr}(a it:Addr):Turn P w K tg (Itl K a) [it] it (fun i h=>h.IsListIter it a i) where
 mem:=by simp
 obj:=fun i h st b hb=>by
  have e:b=it:=by simpa using hb
  subst e
  obtain ⟨o,e,c,d⟩:=st
  exact ⟨o,e,fun v z=>by rw [d] at z;cases z⟩
 keep:=fun i h h' st k=>st.at fun o e=>k it (by simp) o e
 item:=by
  intro X hP hw hK hc i pins s σ H E I hf st hg
  subst hP hw hK
  obtain ⟨xs,x,hq,hx⟩:=hg
  obtain ⟨its,rv,p,hz⟩:=I.list hq
  obtain ⟨u,hu,ru⟩:=rv.get hx
  obtain ⟨f0,f1,f2,f3,f4,f5⟩:=hf it (by simp)
  refine wpAny_pyNext_list_item st p.isList (x:=u) (by simpa using hu) fun h' st' sb=>?_
  have I1:Inv X pins σ H {s with heap:=h'}:=I.turned (t':=s.toks) (fun b o hb e=>(sb.2 b hb).trans e) f0 f1 f3 f4 f5
  obtain ⟨o,e,c,d⟩:=id st'
  exact ⟨u,rfl,zrq (s:={s with heap:=h'}) e c d (by decide) ⟨x,H,I1,ru,⟨rfl,fun ys hy=>by rw [I.list_inj hy hq];exact hx⟩,st',fun b hb=>(hf b hb).1⟩⟩
 done:=by
  intro X hP hw hK hc i pins s σ H E I hf st hg
  subst hP hw hK
  obtain ⟨xs,hq,hx⟩:=hg
  obtain ⟨its,rv,p,hz⟩:=I.list hq
  obtain ⟨f0,f1,f2,f3,f4,f5⟩:=hf it (by simp)
  have hl:=rv.length
  exact wpAny_pyNext_list_end (I.ok.hd hc) st p.isList (by simp;omega) fun h' eb=>⟨rfl,I.turned (t':=s.toks) (fun b o hb e=>eb b o hb e) f0 f1 f3 f4 f5⟩
 self:=fun _ _ _ _ _ st h=>wpAny_pyIter_listiter st h
theorem zvd {P:Program}{w:World}{K:PySem.W.Frag}{tg:Expr}(a it:Addr):Turn P w K tg (Itt K a) [it] it (fun i h=>h.IsTupleIter it a i) where
 mem:=by simp
 obj:=fun i h st b hb=>by
  have e:b=it:=by simpa using hb
  subst e
  obtain ⟨o,e,c,d⟩:=st
  exact ⟨o,e,fun v z=>by rw [d] at z;cases z⟩
 keep:=fun i h h' st k=>st.at fun o e=>k it (by simp) o e
 item:=by
  intro X hP hw hK hc i pins s σ H E I hf st hg
  subst hP hw hK
  obtain ⟨xs,x,hq,hx⟩:=hg
  obtain ⟨its,rv,p,hz⟩:=I.tuple hq
  obtain ⟨u,hu,ru⟩:=rv.get hx
  obtain ⟨f0,f1,f2,f3,f4,f5⟩:=hf it (by simp)
  refine wpAny_pyNext_tuple_item st (show s.heap.IsTuple a its.toArray from p) (x:=u) (by simpa using hu) fun h' st' sb=>?_
  have I1:Inv X pins σ H {s with heap:=h'}:=I.turned (t':=s.toks) (fun b o hb e=>(sb.2 b hb).trans e) f0 f1 f3 f4 f5
  obtain ⟨o,e,c,d⟩:=id st'
  exact ⟨u,rfl,zrq (s:={s with heap:=h'}) e c d (by decide) ⟨x,H,I1,ru,⟨rfl,fun ys hy=>by rw [I.tuple_inj hy hq];exact hx⟩,st',fun b hb=>(hf b hb).1⟩⟩
 done:=by
  intro X hP hw hK hc i pins s σ H E I hf st hg
  subst hP hw hK
  obtain ⟨xs,hq,hx⟩:=hg
  obtain ⟨its,rv,p,hz⟩:=I.tuple hq
  obtain ⟨f0,f1,f2,f3,f4,f5⟩:=hf it (by simp)
  have hl:=rv.length
  exact wpAny_pyNext_tuple_end (I.ok.hd hc) st (show s.heap.IsTuple a its.toArray from p) (by simp;omega) fun h' eb=>⟨rfl,I.turned (t':=s.toks) (fun b o hb e=>eb b o hb e) f0 f1 f3 f4 f5⟩
 self:=fun _ _ _ _ _ st h=>wpAny_pyIter_tupleiter st h
theorem zve {P:Program}{w:World}{K:PySem.W.Frag}{tg:Expr}(it:Addr)(lo:Int)(n:Nat):Turn P w K tg (Itr lo n) [it] it (fun i h=>IsRangeIter h it (lo+(i:Nat)*1) ((n:Int)-(i:Nat)) 1) where
 mem:=by simp
 obj:=fun i h st b hb=>by
  have e:b=it:=by simpa using hb
  subst e
  exact ⟨_,st,fun v z=>by
   have z':Data.fields _=Data.cell v:=z
   cases z'⟩
 keep:=fun i h h' st k=>k it (by simp) _ st
 item:=by
  intro X hP hw hK hc i pins s σ H E I hf st hg
  subst hP hw hK
  obtain ⟨f0,f1,f2,f3,f4,f5⟩:=hf it (by simp)
  have W:=Walks.range (prog:=X.prog) (w:=X.w) (I.ok.hd hc) it lo 1 n
  refine W.item i s _ _ hg st fun v h' tk hv st' kk=>?_
  obtain ⟨t,rfl⟩:=hv
  have I1:Inv X pins σ H {s with heap:=h',toks:=tk}:=I.turned (fun b o hb e=>kk b o (by simpa using hb) e) f0 f1 f3 f4 f5
  refine ⟨_,rfl,zrq (s:={s with heap:=h',toks:=tk}) (n:="range_iterator") st' rfl rfl (by decide) ⟨.int (lo+i),H,I1,⟨t,?_⟩,⟨rfl,rfl⟩,st',fun b hb=>(hf b hb).1⟩⟩
  rw [Int.mul_one]
 done:=by
  intro X hP hw hK hc i pins s σ H E I hf st hg
  subst hP hw hK
  obtain ⟨f0,f1,f2,f3,f4,f5⟩:=hf it (by simp)
  exact wpAny_pyNext_range_end (I.ok.hd hc) st (by have:n<=i:=hg;omega) fun h' eb=>⟨rfl,I.turned (t':=s.toks) (fun b o hb e=>eb b o hb e) f0 f1 f3 f4 f5⟩
 self:=fun _ _ _ _ _ st h=>wpAny_pyIter_rangeiter st h
end L2
namespace L2
open PySem PySem.Spec PyProof.Rows
section
variable {X:Cx}{tg:Expr}
def iList (K:PySem.W.Frag)(tl:TE):TI:=fun σ H R=>tl σ H fun x H1=>∃a,x=.ref a/\(∃xs,SqL K H1 a xs)/\R (Itl K a) H1
def iTup (K:PySem.W.Frag)(tl:TE):TI:=fun σ H R=>tl σ H fun x H1=>∃a,x=.ref a/\(∃xs,SqT K H1 a xs)/\R (Itt K a) H1
theorem z33 {l:Expr}{tl:TE}(hl:PE X l tl):PI X tg l (iList X.K tl):=by
 intro pins s σ H R I h
 refine thn (hl pins s σ H _ I h) fun v s1 ⟨x,H1,I1,r1,q1⟩=>?_
 obtain ⟨a,e,⟨xs,hq⟩,q⟩:=q1
 subst e
 cases r1
 obtain ⟨its,rv,p,hz⟩:=I1.list hq
 refine wpAny_pyIter_list p.isList ?_
 refine ⟨s1.heap.objs.size,[s1.heap.objs.size],_,_,H1,rfl,I1.kept (t':=s1.toks) fun b o e=>tqc _ e,zxb a _,⟨_,tqe _ rfl,rfl,rfl⟩,fun b hb=>?_,q⟩
 have e:b=s1.heap.objs.size:=by simpa using hb
 subst e
 exact I1.fpOk (tqg _) (I1.hok.fresh (tqg _))
theorem pi_tup {l:Expr}{tl:TE}(hl:PE X l tl):PI X tg l (iTup X.K tl):=by
 intro pins s σ H R I h
 refine thn (hl pins s σ H _ I h) fun v s1 ⟨x,H1,I1,r1,q1⟩=>?_
 obtain ⟨a,e,⟨xs,hq⟩,q⟩:=q1
 subst e
 cases r1
 obtain ⟨its,rv,p,hz⟩:=I1.tuple hq
 refine wpAny_pyIter_tuple (show s1.heap.IsTuple a its.toArray from p) ?_
 refine ⟨s1.heap.objs.size,[s1.heap.objs.size],_,_,H1,rfl,I1.kept (t':=s1.toks) fun b o e=>tqc _ e,zvd a _,⟨_,tqe _ rfl,rfl,rfl⟩,fun b hb=>?_,q⟩
 have e:b=s1.heap.objs.size:=by simpa using hb
 subst e
 exact I1.fpOk (tqg _) (I1.hok.fresh (tqg _))
theorem z0f {pins:List (Addr×Obj)}{σ:St}{H:Hp}{s:Shared}{R:It->Hp->Prop}{E:Value->Shared->Prop}{lo hi:Int}{t u v:Tok}{tk:Nat}(I:Inv X pins σ H s)(h1:-(2^62)<=lo)(h2:lo<2^62)(h3:-(2^62)<=hi)(h4:hi<2^62)
 (q:R (Itr lo (hi-lo).toNat) H):wpAny (model X.prog X.w) X.A (pyIter (.ref s.heap.objs.size)) (PIE X pins σ tg R) E {s with heap:=s.heap.push {cls:=.type "range",data:=.fields #[.int lo t,.int hi u,.int 1 v]},toks:=tk}:=by
 refine wpAny_pyIter_range (IsRange.new ..) (small_one h1 h2 h3 h4) ?_
 have I1:Inv X pins σ H {s with heap:=s.heap.push {cls:=.type "range",data:=.fields #[.int lo t,.int hi u,.int 1 v]},toks:=tk}:=I.kept fun b o e=>tqc _ e
 refine ⟨(s.heap.push {cls:=.type "range",data:=.fields #[.int lo t,.int hi u,.int 1 v]}).objs.size,[(s.heap.push {cls:=.type "range",data:=.fields #[.int lo t,.int hi u,.int 1 v]}).objs.size],_,_,H,rfl,
  I1.kept (t':=tk) fun b o e=>tqc _ e,zve _ lo (hi-lo).toNat,?_,fun b hb=>?_,q⟩
 ·have e1:lo+((0:Nat):Int)*1=lo:=by simp
  have e2:(((hi-lo).toNat:Nat):Int)-((0:Nat):Int)=Builtin.Range.rangeSize lo hi 1:=by rw [rangeSize_one];split<;>omega
  show IsRangeIter _ _ (lo+((0:Nat):Int)*1) ((((hi-lo).toNat:Nat):Int)-((0:Nat):Int)) 1
  rw [e1,e2]
  exact tqe _ rfl
 ·have e:b=(s.heap.push {cls:=.type "range",data:=.fields #[.int lo t,.int hi u,.int 1 v]}).objs.size:=by simpa using hb
  subst e
  exact I1.fpOk (tqg _) (I1.hok.fresh (tqg _))
def iRng1 (ta:TA):TI:=fun σ H R=>ta σ H fun vs H1=>∃j:Int,vs=[.int j]/\-(2^62)<=j/\j<2^62/\R (Itr 0 j.toNat) H1
theorem zxx {a:Expr}{ta:TA}{p pos:Pos}(hg:Gl X "range")(hm:X.mg "range"=none)(ha:PA X [a] ta)(hs:starEach [a] X.env=[(false,eval a X.env)]:=by rfl):PI X tg (.Call (.Name "range" p) [a] [] pos) (iRng1 ta):=by
 intro pins s σ H R I h
 refine Call_ (zia I hg hm boot_range (PyProof.Rows.callWith_type1 (thn (ha pos pins s σ H _ I h) fun us s1 ⟨vs,H1,I1,r1,q1⟩=>?_) hs rfl))
 obtain ⟨j,e,q1,q2,q⟩:=q1
 subst e
 cases r1 with
 | cons r rr =>
   cases rr
   obtain ⟨t,rfl⟩:=r
   exact call_range_1 (z0f I1 (by omega) (by omega) q1 q2 (by simpa using q))
def tFor (wi:TI)(g:TG)(tb:TS):TS:=fun D σ H=>wi σ H fun J H1=>∃W:Nat->Nat->St->Hp->Prop,(∃m,W 0 m σ H1)/\∀i m σ H,W i m σ H->
 (J.stop i H/\D.nx σ H)\/(J.go i H/\∃N:St->Hp->Prop,(∀σ' H',N σ' H'->∃m',m'<m/\W (i+1) m' σ' H')/\∀x H',J.yld i H x H'->g x σ H' fun σ2 H2=>tb {D with nx:=N,ct:=N,bk:=D.nx} σ2 H2)
def zn7 (fp:List Addr)(h:Heap):List (Addr×Obj):=fp.filterMap fun b=>(h.get? b).map fun o=>(b,o)
theorem zir {fp:List Addr}{h:Heap}{b:Addr}{o:Obj}(hb:b∈fp)(e:h.get? b=some o):(b,o)∈zn7 fp h:=List.mem_filterMap.mpr ⟨b,hb,by rw [e];rfl⟩
theorem zyb {fp:List Addr}{h:Heap}{p:Addr×Obj}(hp:p∈zn7 fp h):p.1∈fp/\h.get? p.1=some p.2:=by
 obtain ⟨b,hb,e⟩:=List.mem_filterMap.mp hp
 cases q:h.get? b with
 |none=>rw [q] at e;cases e
 | some o =>
   rw [q] at e
   have e':(b,o)=p:=Option.some.inj e
   subst e'
   exact ⟨hb,q⟩
theorem Inv.pinned {pins:List (Addr×Obj)}{σ:St}{H:Hp}{s:Shared}{fp:List Addr}(I:Inv X pins σ H s)(hf:∀b∈fp,zf8 X pins H b)(ho:∀b∈fp,∃o,s.heap.get? b=some o/\∀v,o.data≠.cell v):Inv X (pins++zn7 fp s.heap) σ H s:=
 I.pins_of fun p hp=>(List.mem_append.mp hp).elim (fun z=>I.pin p (List.mem_append_right _ z)) fun z=>by
  obtain ⟨hb,e⟩:=zyb z
  obtain ⟨f0,f1,f2,_⟩:=hf p.1 hb
  obtain ⟨o,e',d⟩:=ho p.1 hb
  rw [e] at e';cases e'
  exact ⟨e,f0,f1,f2,d⟩
theorem Inv.unpinned {pins pl:List (Addr×Obj)}{σ:St}{H:Hp}{s:Shared}(I:Inv X (pins++pl) σ H s):Inv X pins σ H s:=I.pins_of fun p hp=>I.pin p (List.mem_append_right _ (List.mem_append_left _ hp))
theorem ps_for {iter:Expr}{body:List Stmt}{wi:TI}{g:TG}{tb:TS}{pos:Pos}(hp:PassesOwn (model X.prog X.w) X.A X.env X.xe)(hc:X.calm=true)(hi:PI X tg iter wi)(hg:PG X tg g)(hb:PSs X body tb)
 (hs:∀x,foldedSetIterable iter X.env x=pure x:=by intro _;rfl):PS X (.For tg iter body [] pos) (tFor wi g tb):=by
 intro pins s σ H D I h
 refine wpAny_For (thn (hi pins s σ H _ I h) fun v s1 h1=>thn h1 fun itv s2 h2=>?_) hs
 obtain ⟨it,fp,tn,J,H2,e,I2,T,st2,f2,W,⟨m0,w0⟩,turn⟩:=h2
 subst e
 have stat:∀{H':Hp},(∀b∈fp,H' b=none)->∀b∈fp,zf8 X pins H' b:=fun hn b hb=>⟨hn b hb,(f2 b hb).2⟩
 refine codeAny_forLoop_any (fun n s'=>∃i σ' H',Inv X pins σ' H' s'/\tn i s'.heap/\(∀b∈fp,H' b=none)/\W i n σ' H') ?_ m0 ⟨0,σ,H2,I2,st2,fun b hb=>(f2 b hb).1,w0⟩
 rintro n s3 ⟨i,σ3,H3,I3,st3,fr3,w3⟩
 rcases turn i n σ3 H3 w3 with ⟨stop,qn⟩|⟨go,N,hN,step⟩
 ·refine wpAny_passesOwn hp (thn (T.done X rfl rfl rfl hc i pins s3 σ3 H3 X.xe I3 (stat fr3) st3 stop) fun r s4 ⟨hr,I4⟩=>?_)
  subst hr
  exact wpAny_execs_nil ⟨σ3,H3,I4,qn⟩
 ·refine wpAny_passesOwn hp (thn (T.item X rfl rfl rfl hc i pins s3 σ3 H3 X.xe I3 (stat fr3) st3 go) fun r s4 ⟨u,hr,h4⟩=>?_)
  subst hr
  refine wpAny_passesOwn hp (thn h4 fun _ s5 ⟨x,H5,I5,r5,y5,st5,fr5⟩=>?_)
  have I5':=I5.pinned (stat fr5) (T.obj _ _ st5)
  refine wpAny_passesOwn hp (thn (hg _ s5 σ3 H5 x u _ I5' r5 (step x H5 y5)) fun _ s6 ⟨σ6,H6,I6,q6⟩=>?_)
  refine wpAny_passesOwn hp (thn (hb _ s6 σ6 H6 _ I6 q6) fun f s7 q7=>?_)
  have again:∀{σ7:St}{H7:Hp},Inv X (pins++zn7 fp s5.heap) σ7 H7 s7->N σ7 H7->∃m,m<n/\∃i σ' H',Inv X pins σ' H' s7/\tn i s7.heap/\(∀b∈fp,H' b=none)/\W i m σ' H':=fun {σ7 H7} I7 n7=>by
   obtain ⟨m',hm,w7⟩:=hN σ7 H7 n7
   refine ⟨m',hm,i+1,σ7,H7,I7.unpinned,T.keep _ _ _ st5 fun b hb o e=>(I7.pin (b,o) (List.mem_append_right _ (List.mem_append_right _ (zir hb e)))).1,fun b hb=>?_,w7⟩
   obtain ⟨o,e,d⟩:=T.obj _ _ st5 b hb
   exact (I7.pin (b,o) (List.mem_append_right _ (List.mem_append_right _ (zir hb e)))).2.1
  cases f with
  |next=>obtain ⟨σ7,H7,I7,n7⟩:=q7;exact again I7 n7
  |cont=>obtain ⟨σ7,H7,I7,n7⟩:=q7;exact again I7 n7
  |brk=>obtain ⟨σ7,H7,I7,q7⟩:=q7;exact ⟨σ7,H7,I7.unpinned,q7⟩
  |ret v=>obtain ⟨x7,σ7,H7,I7,r7,q7⟩:=q7;exact ⟨x7,σ7,H7,I7.unpinned,r7,q7⟩
end
end L2
namespace L2
open PySem PySem.Spec PyProof.Rows
abbrev R2:=V->V->Hp->VK->Prop
def OpR (X:Cx)(f:Value->Value->Sem Value)(r:R2):Prop:=
 ∀ (pins : List (Addr × Obj)) (s : Shared) (σ : St) (H : Hp) (x y : V) (v u : Value) (Q : VK), Inv X pins σ H s -> RelV x v -> RelV y u -> r x y H Q ->
   wpAny (model X.prog X.w) X.A (f v u) (EP X pins σ Q) X.xe s
def UnR (X:Cx)(f:Value->Sem Value)(r:V->Hp->VK->Prop):Prop:=
 ∀ (pins : List (Addr × Obj)) (s : Shared) (σ : St) (H : Hp) (x : V) (v : Value) (Q : VK), Inv X pins σ H s -> RelV x v -> r x H Q ->
   wpAny (model X.prog X.w) X.A (f v) (EP X pins σ Q) X.xe s
def zc0 (X:Cx)(f:Value)(r:List V->Hp->VK->Prop):Prop:=
 ∀ (pins : List (Addr × Obj)) (s : Shared) (σ : St) (H : Hp) (xs : List V) (us : List Value) (Q : VK), Inv X pins σ H s -> Vals xs us -> r xs H Q ->
   wpAny (model X.prog X.w) X.A (call f us) (EP X pins σ Q) X.xe s
def TruR (X:Cx)(r:V->Hp->(Bool->Hp->Prop)->Prop):Prop:=
 ∀ (pins : List (Addr × Obj)) (s : Shared) (σ : St) (H : Hp) (x : V) (v : Value) (Q : Bool -> Hp -> Prop), Inv X pins σ H s -> RelV x v -> r x H Q ->
   wpAny (model X.prog X.w) X.A (truthy v) (TP X pins σ Q) X.xe s
def tOp (r:R2)(ta tb:TE):TE:=fun σ H Q=>ta σ H fun x H1=>tb σ H1 fun y H2=>r x y H2 Q
def tUn (r:V->Hp->VK->Prop)(ta:TE):TE:=fun σ H Q=>ta σ H fun x H1=>r x H1 Q
def rI (C:Int->Int->Prop)(g:Int->Int->V):R2:=fun x y H Q=>∃i j,x=.int i/\y=.int j/\C i j/\Q (g i j) H
def rI0 (g:Int->Int->V):R2:=fun x y H Q=>∃i j,x=.int i/\y=.int j/\Q (g i j) H
def rU (g:Int->V):V->Hp->VK->Prop:=fun x H Q=>∃i,x=.int i/\Q (g i) H
section
variable {X:Cx}{a b c:Expr}{ta tb tc:TE}{pos:Pos}
theorem binT (ha:PE X a ta)(hb:PE X b tb){pins:List (Addr×Obj)}{s:Shared}{σ:St}{H:Hp}{R:V->V->Hp->Prop}(I:Inv X pins σ H s)
 (h:ta σ H fun x H1=>tb σ H1 fun y H2=>R x y H2) {Q:Value->Shared->Prop}{f:Value->Value->Sem Value}
 (hf:∀v u s2 x y H2,Inv X pins σ H2 s2->RelV x v->RelV y u->R x y H2->wpAny (model X.prog X.w) X.A (f v u) Q X.xe s2) :
 wpAny (model X.prog X.w) X.A (eval a X.env) (fun v s₁=>wpAny (model X.prog X.w) X.A (eval b X.env) (fun u s₂=>wpAny (model X.prog X.w) X.A (f v u) Q X.xe s₂) X.xe s₁) X.xe s:=by
 refine thn (ha pins s σ H _ I h) fun v s1 ⟨x,H1,I1,r1,q1⟩=>?_
 refine thn (hb pins s1 σ H1 _ I1 q1) fun u s2 ⟨y,H2,I2,r2,q2⟩=>?_
 exact hf v u s2 x y H2 I2 r1 r2 q2
theorem pe_op {op:Operator}{r:R2}(ho:OpR X (binaryOp op) r)(ha:PE X a ta)(hb:PE X b tb):PE X (.BinOp a op b pos) (tOp r ta tb):=by
 intro pins s σ H Q I h
 exact wpAny_BinOp (binT ha hb I h fun v u s2 x y H2 I2 rx ry q=>ho pins s2 σ H2 x y v u Q I2 rx ry q)
theorem pe_un {op:UnaryOp}{r:V->Hp->VK->Prop}(ho:UnR X (unaryOp op) r)(ha:PE X a ta):PE X (.UnaryOp op a pos) (tUn r ta):=by
 intro pins s σ H Q I h
 exact UnaryOp_ (thn (ha pins s σ H _ I h) fun v s1 ⟨x,H1,I1,r1,q1⟩=>ho pins s1 σ H1 x v Q I1 r1 q1)
theorem opI {f:Value->Value->Sem Value}{C:Int->Int->Prop}{g:Int->Int->Int}
 (rule:∀(i j:Int) (t u:Tok) (s:Shared) (Q:Value->Shared->Prop) (E:Value->Shared->Prop),C i j->Q (.int (g i j) s.toks) {s with toks:=s.toks+1}->wpAny (model X.prog X.w) X.A (f (.int i t) (.int j u)) Q E s) :
 OpR X f (rI C fun i j=>.int (g i j)):=by
 intro pins s σ H x y v u Q I rx ry h
 obtain ⟨i,j,rfl,rfl,hc,q⟩:=h
 obtain ⟨t,rfl⟩:=rx
 obtain ⟨t',rfl⟩:=ry
 exact rule i j t t' s _ _ hc ⟨.int (g i j),H,I.tok _,⟨_,rfl⟩,q⟩
theorem opI0 {f:Value->Value->Sem Value}{g:Int->Int->Int}
 (rule:∀(i j:Int) (t u:Tok) (s:Shared) (Q:Value->Shared->Prop) (E:Value->Shared->Prop),Q (.int (g i j) s.toks) {s with toks:=s.toks+1}->wpAny (model X.prog X.w) X.A (f (.int i t) (.int j u)) Q E s) :
 OpR X f (rI0 fun i j=>.int (g i j)):=by
 intro pins s σ H x y v u Q I rx ry h
 obtain ⟨i,j,rfl,rfl,q⟩:=h
 obtain ⟨t,rfl⟩:=rx
 obtain ⟨t',rfl⟩:=ry
 exact rule i j t t' s _ _ ⟨.int (g i j),H,I.tok _,⟨_,rfl⟩,q⟩
theorem opB0 {f:Value->Value->Sem Value}{g:Int->Int->Bool}
 (rule:∀(i j:Int) (t u:Tok) (s:Shared) (Q:Value->Shared->Prop) (E:Value->Shared->Prop),Q (.bool (g i j)) s->wpAny (model X.prog X.w) X.A (f (.int i t) (.int j u)) Q E s) :
 OpR X f (rI0 fun i j=>.bl (g i j)):=by
 intro pins s σ H x y v u Q I rx ry h
 obtain ⟨i,j,rfl,rfl,q⟩:=h
 obtain ⟨t,rfl⟩:=rx
 obtain ⟨t',rfl⟩:=ry
 exact rule i j t t' s _ _ ⟨.bl (g i j),H,I,rfl,q⟩
def CDiv (i j:Int):Prop:=0<j/\j<1073741824
def CPow (i j:Int):Prop:=0<=j/\j<=1000000/\i.natAbs<2^64
def CMul (i j:Int):Prop:=(-(2^64)<i/\i<2^64)\/(-(2^64)<j/\j<2^64)
theorem CMul.ok {i j:Int}(h:CMul i j):IntMulOk i j:=by
 rcases h with ⟨h1,h2⟩|⟨h1,h2⟩
 ·exact .of_left (intBits_le_64 h1 h2)
 ·exact .of_right (intBits_le_64 h1 h2)
theorem op_add:OpR X (binaryOp .Add) (rI0 fun i j=>.int (i+j)):=opI0 fun _ _ _ _ _ _ _ q=>add_int q
theorem op_sub:OpR X (binaryOp .Sub) (rI0 fun i j=>.int (i-j)):=opI0 fun _ _ _ _ _ _ _ q=>sub_int q
theorem op_mul:OpR X (binaryOp .Mult) (rI CMul fun i j=>.int (i*j)):=opI fun _ _ _ _ _ _ _ hc q=>mul_int q hc.ok
theorem z39:OpR X (binaryOp .FloorDiv) (rI CDiv fun i j=>.int (i / j)):=opI fun i j _ _ _ _ _ hc q=>by
 have h1:(0:Int)<j:=hc.1
 have h2:j<1073741824:=hc.2
 exact floordiv_int (by omega) (by rw [Int.fdiv_eq_ediv_of_nonneg i (by omega)];exact q) (.inl (PyProof.noPylong_small (by omega)))
theorem op_mod:OpR X (binaryOp .Mod) (rI (fun _ j=>0<j) fun i j=>.int (i % j)):=opI fun i j _ _ _ _ _ hc q=>by
 have h1:(0:Int)<j:=hc
 exact mod_int' (by omega) (by rw [Int.fmod_eq_emod_of_nonneg i (by omega)];exact q)
theorem op_pow:OpR X (binaryOp .Pow) (rI CPow fun i j=>.int (i^j.toNat)):=opI fun _ _ _ _ _ _ _ hc q=>pow_int_small hc.1 hc.2.1 hc.2.2 q
theorem unI {f:Value->Sem Value}{g:Int->Int}
 (rule:∀(i:Int) (t:Tok) (s:Shared) (Q:Value->Shared->Prop) (E:Value->Shared->Prop),Q (.int (g i) s.toks) {s with toks:=s.toks+1}->wpAny (model X.prog X.w) X.A (f (.int i t)) Q E s) :
 UnR X f (rU fun i=>.int (g i)):=by
 intro pins s σ H x v Q I rx h
 obtain ⟨i,rfl,q⟩:=h
 obtain ⟨t,rfl⟩:=rx
 exact rule i t s _ _ ⟨.int (g i),H,I.tok _,⟨_,rfl⟩,q⟩
theorem zw9:UnR X (unaryOp .USub) (rU fun i=>.int (-i)):=unI fun _ _ _ _ _ q=>neg_int q
end
def scal:V->V->Bool
 |.non,.non=>true|.non,.int _=>true|.int _,.non=>true|.non,.bl _=>true|.bl _,.non=>true|.non,.str _=>true|.str _,.non=>true
 |.int _,.int _=>true|.bl _,.bl _=>true|.str _,.str _=>true|.byt _,.byt _=>true
 |.int _,.str _=>true|.str _,.int _=>true|.bl _,.str _=>true|.str _,.bl _=>true
 |_,_=>false
def rEq:R2:=fun x y H Q=>scal x y=true/\Q (.bl (decide (x=y))) H
def rNe:R2:=fun x y H Q=>scal x y=true/\Q (.bl (!decide (x=y))) H
theorem zu8 {i j:Int}:decide (V.int i=V.int j)=(i==j):=by
 rw [Bool.eq_iff_iff]
 simp
theorem zyx {i j:Bool}:decide (V.bl i=V.bl j)=(i==j):=by
 rw [Bool.eq_iff_iff]
 simp
theorem zmw {i j:Str}:decide (V.str i=V.str j)=(i==j):=by
 rw [Bool.eq_iff_iff]
 simp
theorem zu9 {i j:Array UInt8}:decide (V.byt i=V.byt j)=(i.toList==j.toList):=by
 rw [Bool.eq_iff_iff]
 cases i
 cases j
 simp
section
variable {X:Cx}{a b c:Expr}{ta tb tc:TE}{pos:Pos}
theorem zb4 {pins:List (Addr×Obj)}{σ:St}{H:Hp}{s:Shared}{Q:VK}{k k':Bool}(I:Inv X pins σ H s)(q:Q (.bl k) H)(e:k=k'):EP X pins σ Q (.bool k') s:=by
 subst e
 exact ⟨.bl k,H,I,rfl,q⟩
theorem op_eq:OpR X (compareOp .Eq) rEq:=by
 intro pins s σ H x y v u Q I rx ry h
 obtain ⟨hs,q⟩:=h
 cases x with
 | non =>
   cases rx
   cases y with
   |non=>cases ry;exact PySem.EqNone.eq_none_none (zb4 I q (by simp))
   |bl j=>cases ry;exact PySem.EqNone.eq_none_bool (zb4 I q (by simp))
   |int j=>obtain ⟨t',rfl⟩:=ry;exact PySem.EqNone.eq_none_int (zb4 I q (by simp))
   |str j=>obtain ⟨t',rfl⟩:=ry;exact PySem.EqNone.eq_none_str (zb4 I q (by simp))
   |_=>exact absurd (show false=true from hs) tqj
 | bl i =>
   cases rx
   cases y with
   |non=>cases ry;exact PySem.EqNone.eq_bool_none (zb4 I q (by simp))
   |bl j=>cases ry;exact eq_bool (zb4 I q zyx)
   |str j=>obtain ⟨t',rfl⟩:=ry;exact PySem.EqMixed.eq_bool_str (zb4 I q (by simp))
   |_=>exact absurd (show false=true from hs) tqj
 | int i =>
   obtain ⟨t,rfl⟩:=rx
   cases y with
   |non=>cases ry;exact PySem.EqNone.eq_int_none (zb4 I q (by simp))
   |int j=>obtain ⟨t',rfl⟩:=ry;exact eq_int (zb4 I q zu8)
   |str j=>obtain ⟨t',rfl⟩:=ry;exact PySem.EqMixed.eq_int_str (zb4 I q (by simp))
   |_=>exact absurd (show false=true from hs) tqj
 | str i =>
   obtain ⟨t,rfl⟩:=rx
   cases y with
   |non=>cases ry;exact PySem.EqNone.eq_str_none (zb4 I q (by simp))
   |bl j=>cases ry;exact PySem.EqMixed.eq_str_bool (zb4 I q (by simp))
   |int j=>obtain ⟨t',rfl⟩:=ry;exact PySem.EqMixed.eq_str_int (zb4 I q (by simp))
   |str j=>obtain ⟨t',rfl⟩:=ry;exact eq_str (zb4 I q zmw)
   |_=>exact absurd (show false=true from hs) tqj
 | byt i =>
   obtain ⟨t,rfl⟩:=rx
   cases y with
   |byt j=>obtain ⟨t',rfl⟩:=ry;exact PySem.W.eq_bytes (zb4 I q zu9)
   |_=>exact absurd (show false=true from hs) tqj
 |_=>cases y<;>exact absurd (show false=true from hs) tqj
theorem op_ne:OpR X (compareOp .NotEq) rNe:=by
 intro pins s σ H x y v u Q I rx ry h
 obtain ⟨hs,q⟩:=h
 cases x with
 | non =>
   cases rx
   cases y with
   |non=>cases ry;exact PySem.EqNone.ne_none_none (zb4 I q (by simp))
   |bl j=>cases ry;exact PySem.EqNone.ne_none_bool (zb4 I q (by simp))
   |int j=>obtain ⟨t',rfl⟩:=ry;exact PySem.EqNone.ne_none_int (zb4 I q (by simp))
   |str j=>obtain ⟨t',rfl⟩:=ry;exact PySem.EqNone.ne_none_str (zb4 I q (by simp))
   |_=>exact absurd (show false=true from hs) tqj
 | bl i =>
   cases rx
   cases y with
   |non=>cases ry;exact PySem.EqNone.ne_bool_none (zb4 I q (by simp))
   |bl j=>cases ry;exact ne_bool (zb4 I q (congrArg not zyx))
   |str j=>obtain ⟨t',rfl⟩:=ry;exact PySem.EqMixed.ne_bool_str (zb4 I q (by simp))
   |_=>exact absurd (show false=true from hs) tqj
 | int i =>
   obtain ⟨t,rfl⟩:=rx
   cases y with
   |non=>cases ry;exact PySem.EqNone.ne_int_none (zb4 I q (by simp))
   |int j=>obtain ⟨t',rfl⟩:=ry;exact ne_int (zb4 I q (congrArg not zu8))
   |str j=>obtain ⟨t',rfl⟩:=ry;exact PySem.EqMixed.ne_int_str (zb4 I q (by simp))
   |_=>exact absurd (show false=true from hs) tqj
 | str i =>
   obtain ⟨t,rfl⟩:=rx
   cases y with
   |non=>cases ry;exact PySem.EqNone.ne_str_none (zb4 I q (by simp))
   |bl j=>cases ry;exact PySem.EqMixed.ne_str_bool (zb4 I q (by simp))
   |int j=>obtain ⟨t',rfl⟩:=ry;exact PySem.EqMixed.ne_str_int (zb4 I q (by simp))
   |str j=>obtain ⟨t',rfl⟩:=ry;exact ne_str (zb4 I q (congrArg not zmw))
   |_=>exact absurd (show false=true from hs) tqj
 | byt i =>
   obtain ⟨t,rfl⟩:=rx
   cases y with
   |byt j=>obtain ⟨t',rfl⟩:=ry;exact PySem.W.ne_bytes (zb4 I q (congrArg not zu9))
   |_=>exact absurd (show false=true from hs) tqj
 |_=>cases y<;>exact absurd (show false=true from hs) tqj
theorem op_lt:OpR X (compareOp .Lt) (rI0 fun i j=>.bl (decide (i<j))):=opB0 fun _ _ _ _ _ _ _ q=>lt_int q
theorem op_le:OpR X (compareOp .LtE) (rI0 fun i j=>.bl (decide (i<=j))):=opB0 fun _ _ _ _ _ _ _ q=>le_int q
theorem op_gt:OpR X (compareOp .Gt) (rI0 fun i j=>.bl (decide (j<i))):=opB0 fun _ _ _ _ _ _ _ q=>gt_int q
theorem op_ge:OpR X (compareOp .GtE) (rI0 fun i j=>.bl (decide (j<=i))):=opB0 fun _ _ _ _ _ _ _ q=>ge_int q
theorem zya:OpR X (compareOp .In) (fun x y H Q=>∃i j,x=.str i/\y=.str j/\Q (.bl (!(Builtin.Str.occurrences j i 0 j.length 1).isEmpty)) H):=by
 intro pins s σ H x y v u Q I rx ry h
 obtain ⟨i,j,rfl,rfl,q⟩:=h
 obtain ⟨t,rfl⟩:=rx
 obtain ⟨t',rfl⟩:=ry
 exact in_str (zb4 I q rfl)
theorem op_isN:OpR X (compareOp .Is) (fun x y H Q=>y=.non/\Q (.bl (decide (x=.non))) H):=by
 intro pins s σ H x y v u Q I rx ry h
 obtain ⟨rfl,q⟩:=h
 cases ry
 refine is_none_gen (zb4 I q ?_)
 cases x<;>first
  |(cases rx;rfl)
  |(obtain ⟨t,rfl⟩:=rx;rfl)
theorem z38:OpR X (compareOp .IsNot) (fun x y H Q=>y=.non/\Q (.bl (!decide (x=.non))) H):=by
 intro pins s σ H x y v u Q I rx ry h
 obtain ⟨rfl,q⟩:=h
 cases ry
 refine isnot_none_gen (zb4 I q ?_)
 cases x<;>first
  |(cases rx;rfl)
  |(obtain ⟨t,rfl⟩:=rx;rfl)
theorem zsx:OpR X (compareOp .NotIn) (fun x y H Q=>∃i j,x=.str i/\y=.str j/\Q (.bl (!(!(Builtin.Str.occurrences j i 0 j.length 1).isEmpty))) H):=by
 intro pins s σ H x y v u Q I rx ry h
 obtain ⟨i,j,rfl,rfl,q⟩:=h
 obtain ⟨t,rfl⟩:=rx
 obtain ⟨t',rfl⟩:=ry
 exact notIn_str (zb4 I q rfl)
theorem z35 {op:CmpOp}{r:R2}(ho:OpR X (compareOp op) r)(ha:PE X a ta)(hb:PE X b tb)(hm:behindInMarks op b=false):PE X (.Compare a [op] [b] pos) (tOp r ta tb):=by
 intro pins s σ H Q I h
 exact wpAny_Compare1 (binT ha hb I h fun v u s2 x y H2 I2 rx ry q=>ho pins s2 σ H2 x y v u Q I2 rx ry q) hm
def tTest (t:TE):TT:=fun σ H Q=>t σ H fun x H'=>∃k,x=.bl k/\Q k H'
theorem zuu {op:CmpOp}{r:R2}(ho:OpR X (compareOp op) r)(ha:PE X a ta)(hb:PE X b tb)(hm:behindInMarks op b=false):PT X (.Compare a [op] [b] pos) (tTest (tOp r ta tb)):=by
 intro pins s σ H Q I h
 refine wpAny_isTrue_Compare1 (thn (ha pins s σ H _ I h) fun v s1 ⟨x,H1,I1,r1,q1⟩=>thn (hb pins s1 σ H1 _ I1 q1) fun u s2 ⟨y,H2,I2,r2,q2⟩=>
  thn (ho pins s2 σ H2 x y v u _ I2 r1 r2 q2) fun c s3 ⟨z,H3,I3,r3,k,e,q3⟩=>?_) hm
 subst e
 cases r3
 exact tqp ⟨H3,I3,q3⟩
def zr5 (r r':R2)(ta tb tc:TE):TE:=fun σ H Q=>ta σ H fun x H1=>tb σ H1 fun y H2=>r x y H2 fun z H3=>∃k,z=.bl k/\
 (if k=true then tc σ H3 fun w' H4=>r' y w' H4 Q else Q (.bl false) H3)
theorem z0l {op op':CmpOp}{r r':R2}(ho:OpR X (compareOp op) r)(ho':OpR X (compareOp op') r')(ha:PE X a ta)(hb:PE X b tb)(hc:PE X c tc)
 (hm:lastMarks [op,op'] [b,c]=false:=by with_unfolding_all rfl):PE X (.Compare a [op,op'] [b,c] pos) (zr5 r r' ta tb tc):=by
 intro pins s σ H Q I h
 refine Compare_chain (thn (ha pins s σ H _ I h) fun v s1 ⟨x,H1,I1,r1,q1⟩=>chain_link (thn (hb pins s1 σ H1 _ I1 q1) fun u s2 ⟨y,H2,I2,r2,q2⟩=>
  thn (ho pins s2 σ H2 x y v u _ I2 r1 r2 q2) fun d s3 ⟨z,H3,I3,r3,k,e,q3⟩=>?_)) hm
 subst e
 cases r3
 refine tqp ?_
 cases k with
 |false=>exact ite_ff ⟨.bl false,H3,I3,rfl,q3⟩
 |true=>exact ite_tt (chain_last (thn (hc pins s3 σ H3 _ I3 q3) fun w' s4 ⟨z',H4,I4,r4,q4⟩=>ho' pins s4 σ H4 y z' u w' Q I4 r2 r4 q4))
theorem z0h {op op':CmpOp}{r r':R2}(ho:OpR X (compareOp op) r)(ho':OpR X (compareOp op') r')(ha:PE X a ta)(hb:PE X b tb)(hc:PE X c tc)
 (hm:lastMarks [op,op'] [b,c]=false:=by with_unfolding_all rfl):PT X (.Compare a [op,op'] [b,c] pos) (tTest (zr5 r r' ta tb tc)):=by
 intro pins s σ H Q I h
 refine isTrue_chain (thn (ha pins s σ H _ I h) fun v s1 ⟨x,H1,I1,r1,q1⟩=>test_link (thn (hb pins s1 σ H1 _ I1 q1) fun u s2 ⟨y,H2,I2,r2,q2⟩=>
  thn (ho pins s2 σ H2 x y v u _ I2 r1 r2 q2) fun d s3 ⟨z,H3,I3,r3,k,e,q3⟩=>?_)) hm
 subst e
 cases r3
 refine tqp ?_
 cases k with
 | false =>
   obtain ⟨k',e',q'⟩:=q3
   cases e'
   exact ite_ff ⟨H3,I3,q'⟩
 | true =>
   refine ite_tt (test_last (thn (hc pins s3 σ H3 _ I3 q3) fun w' s4 ⟨z',H4,I4,r4,q4⟩=>thn (ho' pins s4 σ H4 y z' u w' _ I4 r2 r4 q4) fun d' s5 ⟨z2,H5,I5,r5,k2,e2,q5⟩=>?_))
   subst e2
   cases r5
   exact tqp ⟨H5,I5,q5⟩
def TruV (K:PySem.W.Frag)(x:V)(H:Hp)(k:Bool):Prop:=
 match x with
 |.non=>k=false
 |.bl b=>k=b
 |.int i=>k=(i != 0)
 |.str y=>y.length<=sizeLine/\k=((y.length:Int) != 0)
 |.byt y=>y.size<=sizeLine/\k=((y.size:Int) != 0)
 |.ref p=>(∃xs,SqL K H p xs/\k=!xs.isEmpty)\/(∃xs,SqT K H p xs/\k=!xs.isEmpty)\/∃kvs,H p=some (.dK kvs)/\k=!kvs.isEmpty
 |_=>False
theorem zwk {κ:Type}{kvs:List (κ×V)}{vs:List (κ×Value)}(r:KV kvs vs):(!vs.isEmpty)=!kvs.isEmpty:=by
 cases r<;>rfl
theorem zoq {xs:List V}{its:List Value}(r:Vals xs its):(!its.toArray.isEmpty)=!xs.isEmpty:=by
 cases r<;>simp
theorem zjl:(sizeLine:Nat)<2^63:=by rw [sizeLine_eq];decide
theorem tru_ok:TruR X (fun x H Q=>∃k,TruV X.K x H k/\Q k H):=by
 intro pins s σ H x v Q I rx h
 obtain ⟨k,e,q⟩:=h
 have hl:=zjl
 have hs:sizeLine=16777216:=sizeLine_eq
 cases x with
 | non =>
   cases rx
   have e':k=false:=e
   subst e'
   exact truthy_none ⟨H,I,q⟩
 | bl b =>
   cases rx
   have e':k=b:=e
   subst e'
   exact tqp ⟨H,I,q⟩
 | int i =>
   obtain ⟨t,rfl⟩:=rx
   have e':k=(i != 0):=e
   subst e'
   exact PySem.P.truthy_int ⟨H,I,q⟩
 | str y =>
   obtain ⟨t,rfl⟩:=rx
   obtain ⟨hy,e'⟩:y.length<=sizeLine/\k=((y.length:Int) != 0):=e
   subst e'
   exact PySem.P.truthy_str (by omega) ⟨H,I.tok _,q⟩
 | byt y =>
   obtain ⟨t,rfl⟩:=rx
   obtain ⟨hy,e'⟩:y.size<=sizeLine/\k=((y.size:Int) != 0):=e
   subst e'
   exact PySem.W.truthy_bytes (by omega) ⟨H,I.tok _,q⟩
 | ref p =>
   cases rx
   have e':(∃xs,SqL X.K H p xs/\k=!xs.isEmpty)\/(∃xs,SqT X.K H p xs/\k=!xs.isEmpty)\/∃kvs,H p=some (.dK kvs)/\k=!kvs.isEmpty:=e
   rcases e' with ⟨xs,hx,e'⟩|⟨xs,hx,e'⟩|⟨kvs,hx,e'⟩
   ·subst e'
    obtain ⟨its,r,pl,hz⟩:=I.list hx
    have hlen:=r.length
    exact wpAny_truthy_list pl.isList (by simp only [List.size_toArray];omega) ⟨H,I.tok _,by rw [zoq r];exact q⟩
   ·subst e'
    obtain ⟨its,r,pl,hz⟩:=I.tuple hx
    have hlen:=r.length
    exact truthy_tuple pl (by simp only [List.size_toArray];omega) ⟨H,I.tok _,by rw [zoq r];exact q⟩
   ·subst e'
    obtain ⟨hz,hS,vs,r,m⟩:kvs.length<=sizeLine/\(p==sysModules)=false/\∃vs,KV kvs vs/\s.heap.DictOf (zko X.prog X.w) p vs:=I.hok p _ hx
    have hlen:kvs.length=vs.length:=Paired.length r
    exact wpAny_truthy_dict hS m (by omega) ⟨H,I.tok _,by rw [zwk r];exact q⟩
 |_=>exact (show False from e).elim
theorem z0g (ha:PE X a ta)(he:∀whole,isTrue a X.env whole=(do let v <- whole;standAt a.pos;holding [v] (truthy v))) :
 PT X a (fun σ H Q=>ta σ H fun x H'=>∃k,TruV X.K x H' k/\Q k H'):=by
 intro pins s σ H Q I h
 exact isTrue_plain (thn (ha pins s σ H _ I h) fun v s1 ⟨x,H1,I1,r1,q1⟩=>tru_ok pins s1 σ H1 x v Q I1 r1 q1) (he _)
theorem zvy:OpR X (binaryOp .Add) (fun x y H Q=>∃i j,x=.str i/\y=.str j/\i.length+j.length<=sizeLine/\Q (.str (i++j)) H):=by
 intro pins s σ H x y v u Q I rx ry h
 obtain ⟨i,j,rfl,rfl,hz,q⟩:=h
 obtain ⟨t,rfl⟩:=rx
 obtain ⟨t',rfl⟩:=ry
 exact add_str (fun t' tk=>⟨.str (i++j),H,I.tok _,⟨_,rfl⟩,q⟩) hz
theorem vals1 {x:V}{us:List Value}(r:Vals [x] us):∃u,us=[u]/\RelV x u:=by
 cases r with
 |cons r1 r2=>cases r2;exact ⟨_,rfl,r1⟩
theorem vals2 {x y:V}{us:List Value}(r:Vals [x,y] us):∃u w',us=[u,w']/\RelV x u/\RelV y w':=by
 cases r with
 | cons r1 r2 =>
   cases r2 with
   |cons r3 r4=>cases r4;exact ⟨_,_,rfl,r1,r3⟩
end
end L2
namespace L2
open PySem PySem.Spec PyProof.Rows
structure ObjM (h:Heap) (x dx C:Addr) (mA:Str->Option Value):Prop where
 obj:h.get? x=some (PySem.W.instObj C dx)
 ns:h.Ns1 dx mA
 ne:dx≠x
theorem zqo {h:Heap}{dx:Addr}{mA:Str->Option Value}(n:h.Ns1 dx mA):∃od,h.get? dx=some od/\∀name,PySem.W.lookIn name od=some (mA name):=by
 obtain ⟨o,es,ep,ho,hd,hk,_,hm⟩:=n
 refine ⟨o,ho,fun name=>?_⟩
 have e:=hm name
 unfold nsFind findBy at e
 rw [<- Array.find?_toList] at e
 unfold PySem.W.lookIn
 rw [hd]
 dsimp only
 split
 ·rename_i y q
  rw [q] at e
  exact congrArg some e
 ·rename_i q
  rw [q] at e
  have a:es.toList.any (·.refKey)=false:=by
   rw [List.any_eq_false]
   intro y hy
   obtain ⟨z,t,hkey⟩:=hk y (Array.mem_toList_iff.mp hy)
   simp [DictEntry.refKey,hkey]
  have a':¬ es.toList.any (·.refKey)=true:=by rw [a];exact tqj
  rw [if_neg a']
  exact congrArg some e
theorem ObjM.look {h:Heap}{x dx C:Addr}{mA:Str->Option Value}(I:ObjM h x dx C mA):∃od,PySem.W.InstAt h x (PySem.W.instObj C dx) C (some od)/\∀name,PySem.W.lookIn name od=some (mA name):=
 let ⟨od,ho,hl⟩:=zqo I.ns
 ⟨od,⟨I.obj,rfl,rfl,ho⟩,hl⟩
theorem RelO.some_of {v:V}{o:Option Value}(r:RelO (some v) o):∃u,o=some u/\RelV v u:=by
 cases o with
 |none=>exact (show False from r).elim
 |some u=>exact ⟨u,rfl,r⟩
section
variable {P:Program}{w:World}{H H':Hp}{h h':Heap}{a C dx:Addr}{fs fs':List (Str×V)}
theorem z4p (hok:HOk P w H h)(e:H a=some (.ins C dx fs)):∃mA,ObjM h a dx C mA/\(∀f,RelO (fs.lookup f) (mA f))/\PySem.Within mA (fs.map (·.1))/\fs.length<=1000/\H dx=some (.own a):=by
 obtain ⟨d,z,ne,ob,mA,n,r,q⟩:=(show zdb P w H h a (.ins C dx fs) from hok a _ e)
 exact ⟨mA,⟨ob,n,ne⟩,r,q,z,d⟩
end
structure Cls (K:PySem.W.Frag) (C:Addr):Prop where
 pg:PySem.W.plainGet K C Str.empty=true
 hd:PySem.W.hasDictIn K C=true
 po:PySem.W.plainOver K C=true
 sa:PySem.W.findIn K (.ref C) "__setattr__"=some (some (.builtin "object.__setattr__"))
theorem Cls.get {K:PySem.W.Frag}{C:Addr}(c:Cls K C)(f:Str):PySem.W.plainGet K C f=true:=c.pg
section
variable {X:Cx}{pins:List (Addr×Obj)}{σ:St}{H:Hp}{s:Shared}{a C dx:Addr}{fs:List (Str×V)}{f:Str}{v:V}{A:Around}{E:Value->Shared->Prop}
theorem z5j {prog:Program}{w:World}{env:Env}{e:Expr}{f:Str}{pos:Pos}{s:Shared}{Q:Value->Shared->Prop}(hb:attributeBase e f env (eval e env)=eval e env)
 (h:wpAny (model prog w) A (eval e env) (fun o s₁=>wpAny (model prog w) A (getAttr o f true) Q E s₁) E s):wpAny (model prog w) A (eval (.Attribute e f pos) env) Q E s:=
 Attribute_any_ h (by rw [arm_eval_Attribute,hb])
end
section
variable {X:Cx}{pins:List (Addr×Obj)}{σ:St}{H:Hp}{s:Shared}{A:Around}{E:Value->Shared->Prop}{Q:Value->Shared->Prop}{c:Value}{b:Bool}
inductive zin (K:PySem.W.Frag) (H:Hp):V->Value->Prop where
 |non:zin K H .non (.type "NoneType")
 |bl (x:Bool):zin K H (.bl x) (.type "bool")
 |int (i:Int):zin K H (.int i) (.type "int")
 |str (x:Str):zin K H (.str x) (.type "str")
 |flt (x:UInt64):zin K H (.flt x) (.type "float")
 |lst {a:Addr}{xs:List V} (e:H a=some (.lst xs)):zin K H (.ref a) (.type "list")
 |frz {a:Addr}{o:Obj}{xs:List V} (e:H a=some (.frz o (.lst xs))):zin K H (.ref a) (.type "list")
 |tup {a:Addr}{xs:List V} (e:H a=some (.tup xs)):zin K H (.ref a) (.type "tuple")
 |dK {a:Addr}{kvs:List (Key×V)} (e:H a=some (.dK kvs)):zin K H (.ref a) (.type "dict")
 |dT {a:Addr}{kvs:List (List Key×V)} (e:H a=some (.dT kvs)):zin K H (.ref a) (.type "dict")
 |ins {a C dx:Addr}{fs:List (Str×V)} (e:H a=some (.ins C dx fs)) (cl:Cls K C) (ha:PySem.W.findIn K (.ref C) "__class__"=some (some (.builtin "object.__class__")))
  (hn:PySem.W.specialIn K (.builtin "object.__class__") "__get__"=some (some (.builtin "getset_descriptor.__get__"))) (htk:PySem.W.takesIn K (.builtin "object.__class__")=some true)
  (hm:PySem.W.mroIn K C (.type "object")=some true):zin K H (.ref a) (.ref C)
theorem zj0 {x:V}{u t:Value}(I:Inv X pins σ H s)(rx:RelV x u)(ty:zin X.K H x t)(e:PySem.W.kitOne X.K t c=some b)(h:∀tk,Q (.bool b) {s with toks:=tk}) :
 wpAny (model X.prog X.w) A (call (.builtin "isinstance") [u,c]) Q E s:=by
 cases ty with
 |non=>cases (show u=Value.none from rx);exact PySem.W.kia_one PySem.W.kitx_none I.kIn True.intro e (fun z=>nomatch z) h
 |bl y=>cases (show u=Value.bool y from rx);exact PySem.W.kia_one PySem.W.kitx_bool I.kIn True.intro e (fun z=>nomatch z) h
 |int i=>obtain ⟨t,q⟩:=(show ∃t,u=Value.int i t from rx);cases q;exact PySem.W.kia_one PySem.W.kitx_int I.kIn True.intro e (fun z=>nomatch z) h
 |str y=>obtain ⟨t,q⟩:=(show ∃t,u=Value.str y t from rx);cases q;exact PySem.W.kia_one PySem.W.kitx_str I.kIn True.intro e (fun z=>nomatch z) h
 |flt y=>obtain ⟨t,q⟩:=(show ∃t,u=Value.float y t from rx);cases q;exact PySem.W.kia_one PySem.W.kitx_float I.kIn True.intro e (fun z=>nomatch z) h
 | @lst a xs ea =>
   cases (show u=Value.ref a from rx)
   obtain ⟨_,_,n,_,h1⟩:=(show zdb X.prog X.w H s.heap a (.lst xs) from I.hok a _ ea)
   exact PySem.W.kia_one PySem.W.kitx_list I.kIn ⟨_,h1,rfl⟩ e (fun z=>nomatch z) h
 | @frz a ob xs ea =>
   cases (show u=Value.ref a from rx)
   obtain ⟨_,_,_,n,_,h1⟩:=(show zdb X.prog X.w H s.heap a (.frz ob (.lst xs)) from I.hok a _ ea)
   exact PySem.W.kia_one PySem.W.kitx_list I.kIn ⟨_,h1,rfl⟩ e (fun z=>nomatch z) h
 | @tup a xs ea =>
   cases (show u=Value.ref a from rx)
   obtain ⟨_,_,_,p⟩:=(show zdb X.prog X.w H s.heap a (.tup xs) from I.hok a _ ea)
   obtain ⟨o,h1,h2,_⟩:=p
   exact PySem.W.kia_one PySem.W.kitx_tuple I.kIn ⟨o,h1,h2⟩ e (fun z=>nomatch z) h
 | @dK a kvs ea =>
   cases (show u=Value.ref a from rx)
   obtain ⟨_,_,vs,_,p⟩:=(show zdb X.prog X.w H s.heap a (.dK kvs) from I.hok a _ ea)
   obtain ⟨o,es,ep,h1,h2,_⟩:=p
   exact PySem.W.kia_one PySem.W.kitx_dict I.kIn ⟨o,h1,h2.1⟩ e (fun z=>nomatch z) h
 | @dT a kvs ea =>
   cases (show u=Value.ref a from rx)
   obtain ⟨_,_,xs,_,o,es,ep,h1,h2,_⟩:=(show zdb X.prog X.w H s.heap a (.dT kvs) from I.hok a _ ea)
   exact PySem.W.kia_one PySem.W.kitx_dict I.kIn ⟨o,h1,h2.1⟩ e (fun z=>nomatch z) h
 | @ins a C dx fs ea cl ha hn htk hm =>
   cases (show u=Value.ref a from rx)
   obtain ⟨mA,O,_⟩:=z4p I.hok ea
   obtain ⟨od,J,_⟩:=O.look
   exact PySem.W.kia_one (PySem.W.kitx_own (cl.get _) cl.hd ha hn htk hm) I.kIn J e (fun z=>nomatch z) h
end
end L2
namespace L2
open PySem PySem.Spec PyProof.Rows
structure zcl (k:Nat) (A:Around):Prop where
 hd:A.handled=none
 dp:A.depth+3*k+5<recursionLimit
 un:A.units+16*k+200<cLine
 gd:A.guards=some []
theorem zcl.mono {j k:Nat}{A:Around}(r:zcl k A)(h:j<=k):zcl j A:=⟨r.hd,by have:=r.dp;omega,by have:=r.un;omega,r.gd⟩
theorem zcl.deeper {k:Nat}{A:Around}(r:zcl (k+1) A)(env:Env):zcl k (A.deeper env):=
 ⟨r.hd,by have:=r.dp;show A.depth+1+3*k+5<_;omega,by have:=r.un;show A.units+3+16*k+200<_;omega,r.gd⟩
theorem zv7 {A:Around}{C:Addr}{us:List Value}{kw:List (Str×Value)}:(A.under (.builtin "type.__call__" ⟨.ref C::us,kw⟩)).depth=A.depth+1:=by
 first|rfl|simp [Around.under,Code.weight,Code.isCreation,Code.isGuard,Code.isCaller,Code.frames,Code.isFrame,guardIds]
theorem zv6 {A:Around}{C:Addr}{us:List Value}{kw:List (Str×Value)}:(A.under (.builtin "type.__call__" ⟨.ref C::us,kw⟩)).units=A.units+1:=by
 first|rfl|simp [Around.under,Code.cUnits,Code.frames,Code.isFrame]
theorem zcl.make {k:Nat}{A:Around}(r:zcl (k+1) A)(C:Addr)(us:List Value)(kw:List (Str×Value)):zcl k (A.under (.builtin "type.__call__" ⟨.ref C::us,kw⟩)):=
 ⟨r.hd,by have:=r.dp;rw [zv7];omega,by have:=r.un;rw [zv6];omega,r.gd⟩
theorem zcl.depth {k:Nat}{A:Around}(r:zcl k A):A.depth<recursionLimit:=by have:=r.dp;omega
theorem zcl.units {k:Nat}{A:Around}(r:zcl k A):A.units+64<cLine:=by have:=r.un;omega
def tNil:TA:=fun _ H Q=>Q [] H
def tCons (ta:TE)(tr:TA):TA:=fun σ H Q=>ta σ H fun x H1=>tr σ H1 fun xs H2=>Q (x::xs) H2
section
variable {X:Cx}{e:Expr}{es:List Expr}{te:TE}{t:TA}{pos:Pos}
theorem zd9:PA X [] tNil:=fun _ _ _ _ H Q I h=>Calls.spliced_nil ⟨[],H,I,.nil,h⟩
theorem zcq (ha:PE X e te)(hr:PA X es t)(hs:starEach (e::es) X.env=(false,eval e X.env)::starEach es X.env:=by rfl):PA X (e::es) (tCons te t):=by
 intro pos pins s σ H Q I h
 rw [hs]
 show wpAny _ _ (spliced ((false,eval e X.env)::backTo pos (starEach es X.env))) _ _ s
 refine Calls.spliced_cons (thn (ha pins s σ H _ I h) fun u s1 ⟨x,H1,I1,r1,q1⟩=>?_)
 exact thn (hr pos pins s1 σ H1 _ I1 q1) fun us s2 ⟨xs,H2,I2,r2,q2⟩=>⟨x::xs,H2,I2,.cons r1 r2,q2⟩
def tTup (t:TA):TE:=fun σ H Q=>t σ H fun xs H1=>xs.length<=sizeLine/\∀p,H1 p=none->Q (.ref p) (upd H1 p (.tup xs))
def tLst (t:TA):TE:=fun σ H Q=>t σ H fun xs H1=>xs.length<=sizeLine/\∀p,H1 p=none->Q (.ref p) (upd H1 p (.lst xs))
theorem pe_tup {x1}(h:PA X es t):PE X (.Tuple es x1 pos) (tTup t):=by
 intro pins s σ H Q I hq
 refine wpAny_Tuple_spliced (thn (h pos pins s σ H _ I hq) fun us s1 ⟨xs,H1,I1,r,z,q⟩=>⟨by rw [<- r.length];exact z,?_⟩)
 have hf:H1 s1.heap.objs.size=none:=I1.hok.fresh (tqg _)
 refine ⟨.ref s1.heap.objs.size,upd H1 s1.heap.objs.size (.tup xs),I1.laid (t':=s1.toks) (fun b u e=>tqc _ e) (tqg _) ?_,rfl,q _ hf⟩
 exact ⟨z,us,r,⟨_,tqe _ rfl,rfl,_,rfl⟩⟩
theorem pe_lst (h:PA X es t):PE X (.List es pos) (tLst t):=by
 intro pins s σ H Q I hq
 refine wpAny_List_spliced (thn (h pos pins s σ H _ I hq) fun us s1 ⟨xs,H1,I1,r,z,q⟩=>⟨by rw [<- r.length];exact z,?_⟩)
 have hf:H1 s1.heap.objs.size=none:=I1.hok.fresh (tqg _)
 refine ⟨.ref s1.heap.objs.size,upd H1 s1.heap.objs.size (.lst xs),I1.laid (t':=s1.toks) (fun b u e=>tqc _ e) (tqg _) ?_,rfl,q _ hf⟩
 exact ⟨z,us,0,r,tqe _ rfl⟩
end
abbrev Sp:=List V->Hp->VK->XK->Prop
abbrev CXT:=List Env->Hp->Shared->XK->Value->Shared->Prop
structure znu (P:Program) (w:World) (K:PySem.W.Frag) (mg:Str->Option Value) (base:Heap) (A:Around) (outer:List Env) (s:Shared) (H:Hp):Prop where
 frames:A.frames=some outer
 mod:Mod K mg base
 bs:∀b o,base.get? b=some o->s.heap.get? b=some o/\H b=none
 bsz:base.objs.size<=s.heap.objs.size
 funs:s.heap.FunFrames base outer
 frf:∀b∈frs outer,H b=none
 hok:HOk P w H s.heap
 bare:AllBare s.gens
def CE (outer:List Env)(P:Program)(w:World)(H:Hp)(s:Shared)(Q:VK)(u:Value)(s':Shared):Prop:=
 ∃v H',s'.os=s.os/\AllBare s'.gens/\Un (frs outer) [] H H' s.heap s'.heap/\HOk P w H' s'.heap/\RelV v u/\Q v H'
def CR (CX:CXT)(outer:List Env)(P:Program)(w:World)(H:Hp)(s:Shared)(Q:VK)(E:XK)(r:Result)(s':Shared):Prop:=
 match r with
 |.ok (.ret u)=>CE outer P w H s Q u s'
 |.ok _=>False
 |.error e=>CX outer H s E e s'
structure zkf (P:Program) (w:World) (K:PySem.W.Frag) (mg:Str->Option Value) (base:Heap) (CX:CXT) (k:Nat) (f:Addr) (fd:FuncData) (ps:List Str) (sp:Sp):Prop where
 len:∀vs H Q E,sp vs H Q E->vs.length=ps.length
 run:∀(A:Around) (outer:List Env) (s:Shared) (H:Hp) (args:Args) (us:List Value) (vs:List V) (Q:VK) (E:XK),zcl k A->znu P w K mg base A outer s H->BindsTo s fd args (ps.zip us)->Vals vs us->sp vs H Q E->
  codeAny (model P w) A (.call (.ref f) args) (CR CX outer P w H s Q E) s
theorem znu.make {P:Program}{w:World}{K:PySem.W.Frag}{mg:Str->Option Value}{base:Heap}{A:Around}{outer:List Env}{s:Shared}{H:Hp}(e:znu P w K mg base A outer s H)(C:Addr)(us:List Value)(kw:List (Str×Value)) :
 znu P w K mg base (A.under (.builtin "type.__call__" ⟨.ref C::us,kw⟩)) outer s H:=⟨by first|exact e.frames|(simpa [Around.under,Code.envs,Code.isFrame,pushEnvs] using e.frames),e.mod,e.bs,e.bsz,e.funs,e.frf,e.hok,e.bare⟩
section
variable {X:Cx}{pins:List (Addr×Obj)}{σ:St}{H:Hp}{s s':Shared}
theorem Inv.env0 (I:Inv X pins σ H s):znu X.prog X.w X.K X.mg X.base X.A X.stack s H:=
 ⟨I.ok.frames,I.ok.mod,I.bs,tqh I.ok.bsz I.sz,I.stack,I.stkFree,I.hok,I.bare⟩
theorem Inv.after {Q:VK}{u:Value}(I:Inv X pins σ H s)(h:CE X.stack X.prog X.w H s Q u s'):EP X pins σ Q u s':=by
 obtain ⟨v,H',os,bare,un,hok,r,q⟩:=h
 obtain ⟨hh,g,d,t,os'⟩:=s'
 obtain rfl:os'=s.os:=os
 exact ⟨v,H',I.call (h':=hh) (g':=g) (d':=d) (t':=t) (ch:=[]) un hok bare (fun b z=>absurd z (by simp)),r,q⟩
end
def tCall (sp:Sp)(dvs:List V)(E:XK)(t:TA):TE:=fun σ H Q=>t σ H fun vs H1=>sp (vs++dvs) H1 Q E
def Binds (K:PySem.W.Frag)(fd:FuncData)(ps:List Str)(ds:List Value):Prop:=
 ∀(s:Shared) (us:List Value),K.In s.heap->(us++ds).length=ps.length->BindsTo s fd ⟨us,[]⟩ (ps.zip (us++ds))
theorem Binds.all {K:PySem.W.Frag}{fd:FuncData}{ps:List Str}(h:∀us:List Value,us.length=ps.length->bindArgs fd ⟨us,[]⟩=pure (ps.zip us)):Binds K fd ps []:=fun s us _ hl=>by
 rw [List.append_nil] at hl ⊢
 exact .of_eq (h us hl)
def Passes (CX:CXT)(X:Cx)(E:XK):Prop:=∀(pins:List (Addr×Obj)) (σ:St) (H:Hp) (s:Shared) (e:Value) (s':Shared),Inv X pins σ H s->CX X.stack H s E e s'->X.xe e s'
section
variable {X:Cx}{CX:CXT}{k:Nat}{f C:Addr}{fd:FuncData}{ps:List Str}{sp:Sp}{dvs:List V}{ds:List Value}{E:XK}{x m:Str}{p pos apos:Pos}{e o:Expr}{es:List Expr}{ta:TE}{t:TA}
theorem zxt {pins:List (Addr×Obj)}{σ:St}{H:Hp}{s:Shared}{Q:VK}{us:List Value}{vs:List V}(F:zkf X.prog X.w X.K X.mg X.base CX k f fd ps sp)(hr:zcl k X.A)(hb:Binds X.K fd ps ds)(hd:Vals dvs ds)(hx:Passes CX X E)
 (I:Inv X pins σ H s) (r:Vals vs us) (h:sp (vs++dvs) H Q E):wpAny (model X.prog X.w) X.A (call (.ref f) us) (EP X pins σ Q) X.xe s:=by
 have r2:Vals (vs++dvs) (us++ds):=r.append hd
 have hl:(us++ds).length=ps.length:=by rw [<- r2.length];exact F.len _ _ _ _ h
 refine wpAny_call (codeAny_mono (F.run X.A X.stack s H ⟨us,[]⟩ (us++ds) (vs++dvs) Q E hr I.env0 (hb s us I.kIn hl) r2 h) fun r s' hq=>?_)
 cases r with
 |error e=>exact hx pins σ H s e s' I hq
 | ok fl =>
   cases fl with
   |ret u=>exact I.after hq
   |next=>exact False.elim hq
   |brk=>exact False.elim hq
   |cont=>exact False.elim hq
theorem z36 (F:zkf X.prog X.w X.K X.mg X.base CX k f fd ps sp)(hr:zcl k X.A)(hg:Gl X x)(hm:X.mg x=some (.ref f))(hk:PySem.W.keepIn X.K (.ref f)=true)(hb:Binds X.K fd ps ds)(hd:Vals dvs ds)(hx:Passes CX X E)
 (ha:PA X (e::es) t) (hdb:(x==("__debug__":Str))=false:=by decide) (he:starEach (e::es) X.env=(false,eval e X.env)::starEach es X.env:=by rfl) (hpl:(backTo pos (starEach es X.env)).any (·.1)=false:=by rfl) :
 PE X (.Call (.Name x p) (e::es) [] pos) (tCall sp dvs E t):=by
 intro pins s σ H Q I h
 refine wpAny_Call_Name_kw (zhu I hg hm ?_ hdb)
 refine PySem.W.callWith_K (h₀:=X.base) I.ok.mod.kin hk (thn (ha pos pins s σ H _ I h) fun us s1 ⟨vs,H1,I1,r,q⟩=>⟨I1.kIn,?_⟩) he hpl
 exact zxt F hr hb hd hx I1 r q
end
structure zf2 (N P:List Str) (sc:Scope):Prop where
 kind:sc.kind=.function
 co:sc.isCoroutine=false
 gen:sc.isGenerator=false
 nd:N.Nodup
 pre:N.take P.length=P
 par:∀x∈P,sc.names.lookup x=some .local\/sc.names.lookup x=some .cell
 nofree:∀y∈sc.names,y.2≠.free
theorem zq0 {kindOf:Str->Option NameKind}{x:Str}:∀{binds:List (Str×Value)}{m:Str->Option Value},(∀v,(x,v)∉binds)->bindL kindOf binds m x=m x
 |[],_,_=>rfl
 | (n, v) :: r, m, h => by
   unfold bindL
   rw [zq0 fun w hw=>h w (List.mem_cons_of_mem _ hw)]
   split
   ·have:x≠n:=by rintro rfl;exact h v List.mem_cons_self
    simp [this]
   ·rfl
theorem zq2 {kindOf:Str->Option NameKind}{x:Str}:∀{binds:List (Str×Value)}{m:Str->Option Value},(∀v,(x,v)∉binds)->bindC kindOf binds m x=m x
 |[],_,_=>rfl
 | (n, v) :: r, m, h => by
   unfold bindC
   rw [zq2 fun w hw=>h w (List.mem_cons_of_mem _ hw)]
   split
   ·rfl
   ·have:x≠n:=by rintro rfl;exact h v List.mem_cons_self
    simp [this]
theorem zq1 {kindOf:Str->Option NameKind}{x:Str}{v:Value}:∀{P:List Str}{vs:List Value}{i:Nat}{m:Str->Option Value},P.Nodup->P[i]?=some x->vs[i]?=some v->kindOf x=some .local->
 bindL kindOf (P.zip vs) m x=some v
 |[],_,_,_,_,h,_,_=>by simp at h
 |_::_,[],_,_,_,_,h,_=>by simp at h
 | p :: P, w :: vs, 0, m, nd, h1, h2, hk => by
   simp at h1 h2;subst h1;subst h2
   show bindL kindOf ((p,w)::P.zip vs) m p=_
   unfold bindL
   rw [zq0 fun v hv=>(List.nodup_cons.mp nd).1 (List.of_mem_zip hv).1,if_pos hk]
   simp
 | p :: P, w :: vs, i + 1, m, nd, h1, h2, hk => by
   show bindL kindOf ((p,w)::P.zip vs) m x=_
   unfold bindL
   exact zq1 (i:=i) (List.nodup_cons.mp nd).2 (by simpa using h1) (by simpa using h2) hk
theorem zq3 {kindOf:Str->Option NameKind}{x:Str}{v:Value}:∀{P:List Str}{vs:List Value}{i:Nat}{m:Str->Option Value},P.Nodup->P[i]?=some x->vs[i]?=some v->kindOf x≠some .local->
 bindC kindOf (P.zip vs) m x=some v
 |[],_,_,_,_,h,_,_=>by simp at h
 |_::_,[],_,_,_,_,h,_=>by simp at h
 | p :: P, w :: vs, 0, m, nd, h1, h2, hk => by
   simp at h1 h2;subst h1;subst h2
   show bindC kindOf ((p,w)::P.zip vs) m p=_
   unfold bindC
   rw [zq2 fun v hv=>(List.nodup_cons.mp nd).1 (List.of_mem_zip hv).1,if_neg hk]
   simp
 | p :: P, w :: vs, i + 1, m, nd, h1, h2, hk => by
   show bindC kindOf ((p,w)::P.zip vs) m x=_
   unfold bindC
   exact zq3 (i:=i) (List.nodup_cons.mp nd).2 (by simpa using h1) (by simpa using h2) hk
def start (N:List Str)(vs:List V):St:=vs.map some++List.replicate (N.length-vs.length) none
def zfe (CX:CXT)(P:Program)(w:World)(K:PySem.W.Frag)(mg:Str->Option Value)(base:Heap)(N:List Str)(qual:Str)(scope:Scope)(f:Addr)(cd:Value)(A:Around)(outer:List Env)(s:Shared)(H:Hp)(E:XK):Cx where
 prog:=P
 w:=w
 K:=K
 mg:=mg
 base:=base
 A:=A.deeper (envOfC qual scope s.heap.objs.size f cd)
 N:=N
 s₀:=s
 H₀:=H
 env:=envOfC qual scope s.heap.objs.size f cd
 outer:=outer
 stack:=envOfC qual scope s.heap.objs.size f cd::outer
 ex:=[]
 calm:=true
 fn:=fun _=>true
 pn:=[]
 xe:=fun e s'=>wpAny (model P w) (A.deeper (envOfC qual scope s.heap.objs.size f cd)) (leaving (envOfC qual scope s.heap.objs.size f cd) e) (fun _ s''=>CX outer H s E e s'') (fun e' s''=>CX outer H s E e' s'') s'
theorem ztz {sc:Scope}{n:Nat}{x:Str}(h:sc.names.lookup x=some .cell):∃c,(cellsFrom n sc.names []).lookup x=some c:=by
 have q:=PySem.W.cellsFrom_some sc.names n [] (.inl h)
 exact Option.isSome_iff_exists.mp q
theorem zyo {CX:CXT}{P:Program}{w:World}{K:PySem.W.Frag}{mg:Str->Option Value}{base:Heap}{N ps:List Str}{qual:Str}{scope:Scope}{f:Addr}{cd:Value}{A:Around}{outer:List Env}{s s1:Shared}{H:Hp}{E:XK}{us:List Value}{vs:List V}
 (S:zf2 N ps scope) (hd:A.handled=none) (e0:znu P w K mg base A outer s H) (hl:vs.length=ps.length) (r:Vals vs us)
 (x:InCallC s s.heap.objs.size (bindL (envOfC qual scope s.heap.objs.size f cd).kindOf (ps.zip us) fun _=>none) (cellsFrom (s.heap.objs.size+1) scope.names []) (bindC (envOfC qual scope s.heap.objs.size f cd).kindOf (ps.zip us) fun _=>none) s1) :
 Inv (zfe CX P w K mg base N qual scope f cd A outer s H E) [] (start N vs) H s1:=by
 have hpl:ps.length<=N.length:=by have:=congrArg List.length S.pre;rw [List.length_take] at this;omega
 obtain ⟨h1,tk,rfl,hk⟩:=x.done
 have noA:∀b:Addr,b∉(zfe CX P w K mg base N qual scope f cd A outer s H E).ex:=fun b z=>absurd (show b∈([]:List Addr) from z) (by simp)
 refine ⟨⟨e0.mod,S.kind,rfl,rfl,tqg _,fun y z c h1 h2=>?_,fun y hy=>?_,fun y c _ h=>?_,fun _=>hd,Around.frames_deeper e0.frames,.inr ⟨rfl,rfl⟩,fun b z=>absurd z (noA b),e0.bs,e0.bsz,fun b _ _=>noA b,fun b z=>absurd z (noA b),e0.funs,e0.frf⟩,
  rfl,e0.bare,Un.kept hk,⟨_,x.toInCall.ns,fun i y v h1 h2 h3=>?_⟩,fun y c h=>⟨_,x.cell y c h⟩,e0.hok.fresh (tqg _),fun y c h=>?_,fun p hp=>absurd (show p∈([]:List (Addr×Obj)) from hp) (by simp),e0.hok.kept hk,?_⟩
 ·exact name_of_addr x.apart (PySem.mem_of_lookup h1) (PySem.mem_of_lookup h2)
 ·have hy:scope.names.lookup y=some .cell\/scope.names.lookup y=some .free:=hy
  rcases hy with hy|hy
  ·exact ztz hy
  ·exact absurd rfl (S.nofree _ (PySem.mem_of_lookup hy))
 ·exact Nat.le_of_lt (x.above y c (PySem.mem_of_lookup h))
 ·have hi:i<vs.length:=by
   unfold start at h2
   by_cases hi:i<vs.length
   ·exact hi
   ·rw [List.getElem?_append_right (by simpa using hi)] at h2
    rw [List.getElem?_replicate] at h2
    split at h2<;>cases h2
  have ha:vs[i]?=some v:=by
   unfold start at h2
   rw [List.getElem?_append_left (by simpa using hi),List.getElem?_map] at h2
   cases e:vs[i]? with
   |none=>rw [e] at h2;cases h2
   |some a=>rw [e] at h2;cases h2;rfl
  obtain ⟨u,hu,rv⟩:=r.get ha
  have hp:ps[i]?=some y:=by
   rw [<- S.pre,List.getElem?_take_of_lt (by omega)];exact h1
  have ndP:ps.Nodup:=by rw [<- S.pre];exact S.nd.sublist (List.take_sublist _ _)
  refine ⟨u,rv,?_⟩
  rcases S.par y (List.mem_of_getElem? hp) with k|k
  ·exact .inl ⟨k,zq1 ndP hp hu k⟩
  ·obtain ⟨c,e⟩:=ztz (n:=s.heap.objs.size+1) k
   refine .inr ⟨.inl k,c,e,?_⟩
   have q:=x.cell y c e
   rw [zq3 ndP hp hu (by show scope.names.lookup y≠_;rw [k];decide)] at q
   exact q
 ·exact e0.hok.fresh (Nat.le_of_lt (x.above y c (PySem.mem_of_lookup h)))
 ·unfold start
  show _=N.length
  rw [List.length_append,List.length_map,List.length_replicate]
  omega
theorem fn_of {CX:CXT}{P:Program}{w:World}{K:PySem.W.Frag}{mg:Str->Option Value}{base:Heap}{k:Nat}{f:Addr}{name qual:Str}{params:Arguments}{body:List Stmt}{scope:Scope}{dV kV doc pm cdv ct oc:Value}{an od:Option Addr}
 {osl:Array (Option Value)}{N ps:List Str}{sp:Sp} (lk:K.lookup f=some ⟨oc,od,.func (PySem.W.fnOf name qual params body scope dV kV doc pm an cdv ct),osl⟩) (hcd:PySem.W.codeIn K cdv qual=true) (S:zf2 N ps scope)
 (len:∀vs H Q E,sp vs H Q E->vs.length=ps.length)
 (hbody:∀(A:Around) (outer:List Env) (s:Shared) (H:Hp) (vs:List V) (Q:VK) (E:XK),zcl k (A.deeper (envOfC qual scope s.heap.objs.size f cdv))->sp vs H Q E->
  ∃t,PSs (zfe CX P w K mg base N qual scope f cdv A outer s H E) body t/\t {nx:=fun _ H'=>Q .non H',rt:=Q} (start N vs) H) :
 zkf P w K mg base CX (k+1) f (PySem.W.fnOf name qual params body scope dV kV doc pm an cdv ct) ps sp:=by
 refine ⟨len,fun A outer s H args us vs Q E hr e0 hb r hsp=>?_⟩
 have hl:=len _ _ _ _ hsp
 have KX:K.In s.heap:=e0.mod.kin.keeps fun b o e=>(e0.bs b o e).1
 have lim:s.heap.NoLimit:=e0.mod.nolimit.keeps fun b o e=>(e0.bs b o e).1
 have hkind:∀y∈ps.zip us,scope.names.lookup y.1=some .local\/(scope.names.lookup y.1=some .cell/\((cellsFrom (s.heap.objs.size+1) scope.names []).lookup y.1).isSome=true):=fun ⟨n,v⟩ hy=>by
  rcases S.par n (List.of_mem_zip hy).1 with q|q
  ·exact .inl q
  ·exact .inr ⟨q,PySem.W.cellsFrom_some _ _ _ (.inl q)⟩
 refine codeAny_call_function hr.depth (KX _ _ lk) rfl S.co S.gen rfl (PySem.W.codeRec_of KX hcd) (hb _ _ _ _ ?_)
 refine wpAny_newFunctionEnv_cells S.kind hkind fun env he s1 x=>?_
 subst he
 refine ⟨lim.keeps x.toInCall.keep,codeAny_func ?_⟩
 obtain ⟨t,ht,hq⟩:=hbody A outer s H vs Q E (hr.deeper _) hsp
 have I:Inv (zfe CX P w K mg base N qual scope f cdv A outer s H E) [] (start N vs) H s1:=zyo S hr.hd e0 hl r x
 refine wpAny_mono (ht [] s1 (start N vs) H _ I hq) (fun fl s' hs=>?_) fun e s' hs=>hs
 have fin:∀{σ':St}{H':Hp}{v:V}{u:Value},Inv (zfe CX P w K mg base N qual scope f cdv A outer s H E) [] σ' H' s'->RelV v u->Q v H'->CE outer P w H s Q u s':=
  fun {σ' H' v u} J rv q=>⟨v,H',J.os,J.bare,J.base,J.hok,rv,q⟩
 cases fl with
 | ret u =>
   obtain ⟨v,σ',H',J,rv,q⟩:=hs
   exact fin J rv q
 | next =>
   obtain ⟨σ',H',J,q⟩:=hs
   exact fin (v:=V.non) (u:=Value.none) J rfl q
 | brk =>
   obtain ⟨_,_,_,q⟩:=hs
   exact False.elim q
 | cont =>
   obtain ⟨_,_,_,q⟩:=hs
   exact False.elim q
end L2
namespace L2
open PySem PySem.Spec PyProof.Rows
section
variable {X:Cx}{x:Str}{p pos:Pos}{e:Expr}{es:List Expr}{t:TA}{id T:String}{r:List V->Hp->VK->Prop}
def tCB (r:List V->Hp->VK->Prop)(t:TA):TE:=fun σ H Q=>t σ H fun vs H1=>r vs H1 Q
theorem zhs (hc:zc0 X (.builtin id) r)(hg:Gl X x)(hm:X.mg x=none)(hv:bootBuiltins x=some (.builtin id))(ha:PA X (e::es) t)(hn:x≠"__name__":=by decide)(hdb:(x==("__debug__":Str))=false:=by decide)
 (he:starEach (e::es) X.env=(false,eval e X.env)::starEach es X.env:=by rfl) (hpl:(backTo pos (starEach es X.env)).any (·.1)=false:=by rfl):PE X (.Call (.Name x p) (e::es) [] pos) (tCB r t):=by
 intro pins s σ H Q I h
 refine wpAny_Call_Name_kw (zia I hg hm hv ?_ hn hdb)
 exact PyProof.Rows.callWith_builtin1 (thn (ha pos pins s σ H _ I h) fun us s1 ⟨vs,H1,I1,r1,q1⟩=>hc pins s1 σ H1 vs us Q I1 r1 q1) he hpl
theorem zx0 (hc:zc0 X (.type T) r)(hg:Gl X x)(hm:X.mg x=none)(hv:bootBuiltins x=some (.type T))(ha:PA X (e::es) t)(hn:x≠"__name__":=by decide)(hdb:(x==("__debug__":Str))=false:=by decide)
 (he:starEach (e::es) X.env=(false,eval e X.env)::starEach es X.env:=by rfl) (hpl:(backTo pos (starEach es X.env)).any (·.1)=false:=by rfl):PE X (.Call (.Name x p) (e::es) [] pos) (tCB r t):=by
 intro pins s σ H Q I h
 refine wpAny_Call_Name_kw (zia I hg hm hv ?_ hn hdb)
 exact PyProof.Rows.callWith_type1 (thn (ha pos pins s σ H _ I h) fun us s1 ⟨vs,H1,I1,r1,q1⟩=>hc pins s1 σ H1 vs us Q I1 r1 q1) he hpl
end
end L2
namespace HT
open PySem PyProof.Rows
section
variable {prog:Program}{w:World}{A:Around}{E:Value->Shared->Prop}{s:Shared}
theorem z5g {t b:Addr}{vs ws:List Value}{Q:Value->Shared->Prop}(ht:IsTup s.heap t vs.toArray)(hb:IsTup s.heap b ws.toArray)(hv:vs≠[])
 (h1:ws=[]->Q (.ref t) s) (h2:ws≠[]->Q (.ref s.heap.objs.size) {s with heap:=s.heap.push {cls:=.type "tuple",data:=.seq (vs++ws).toArray}})
 (hsz:vs.length+ws.length<=sizeLine):wpAny (model prog w) A (binaryOp .Add (.ref t) (.ref b)) Q E s:=by
 obtain ⟨⟨cls,dd,data,sl⟩,ho,hc,n,hd⟩:=id ht
 obtain ⟨⟨cls2,dd2,data2,sl2⟩,ho2,hc2,n2,hd2⟩:=id hb
 simp only at hc hd hc2 hd2
 subst hc hd hc2 hd2
 have e:vs.toArray++ws.toArray=(vs++ws).toArray:=by simp
 by_cases hw:ws=[]
 ·exact concat_meets ⟨_,ho,rfl⟩ ⟨_,ho2,rfl⟩ noFill_tuple_add seq_tuple_add PySem.F.slot_tuple_add PySem.F.entry_tuple_add (PySem.F.args_tuple_add_2 _ _)
   (tuple_addW1 t b vs.toArray ws.toArray n n2 dd dd2 sl sl2 (by simpa using hv) (by simp [hw])) ⟨ho,ho2,h1 hw⟩
 ·refine concat_meets ⟨_,ho,rfl⟩ ⟨_,ho2,rfl⟩ noFill_tuple_add seq_tuple_add PySem.F.slot_tuple_add PySem.F.entry_tuple_add (PySem.F.args_tuple_add_2 _ _)
   (tuple_addW2 t b vs.toArray ws.toArray n n2 dd dd2 sl sl2 (by simpa using hv) (by simpa using hw) (by rw [List.size_toArray,List.size_toArray];exact hsz)) ⟨ho,ho2,?_⟩
  rw [e]
  exact h2 hw
def sIx (n d:Nat):Option Int->Nat
 |none=>d
 |some v=>if v<0 then (v+(n:Int)).toNat else min v.toNat n
theorem sIx_le (n d:Nat)(hd:d<=n)(o:Option Int):sIx n d o<=n:=by
 cases o with
 |none=>exact hd
 | some v =>
   show (if v<0 then (v+(n:Int)).toNat else min v.toNat n)<=n
   by_cases hv:v<0
   ·rw [if_pos hv];omega
   ·rw [if_neg hv];exact Nat.min_le_right _ _
theorem zvc (v:Int)(n d:Nat):(if v<0 then max (v+(n:Int)) 0 else min v (n:Int))=((sIx n d (some v):Nat):Int):=by
 show (if v<0 then max (v+(n:Int)) 0 else min v (n:Int))=(((if v<0 then (v+(n:Int)).toNat else min v.toNat n):Nat):Int)
 by_cases hv:v<0
 ·simp only [if_pos hv];omega
 ·simp only [if_neg hv];omega
theorem zwu (lo hi:Option Int)(n:Nat):Builtin.Slice.sliceAdjust lo hi 1 (n:Int)=(((sIx n 0 lo:Nat):Int),((sIx n n hi:Nat):Int)):=by
 have h1:¬ ((1:Int)<0):=by omega
 unfold Builtin.Slice.sliceAdjust
 simp only [h1,if_false]
 refine Prod.ext ?_ ?_
 ·cases lo with
  |none=>rfl
  |some v=>exact zvc v n 0
 ·cases hi with
  |none=>rfl
  |some v=>exact zvc v n n
theorem zvp (i j:Nat):Builtin.Slice.slicePlaces (i:Int) (j:Int) 1=j-i:=by
 unfold Builtin.Slice.slicePlaces
 have h1:(1:Int) > 0:=by omega
 simp only [h1,if_true,Int.ediv_one]
 split<;>omega
theorem zn2 {v:Value}{o:Option Int}{Q:Option Int->Shared->Prop}(p:IsPart v o)(h:Q o s):wpAny (model prog w) A (Builtin.Slice.slicePartIndex v) Q E s:=by
 cases p with
 |none=>exact slicePart_none h
 |int i t=>exact slicePart_int h
theorem zjb {sl:Addr}{vl vu:Value}{lo hi:Option Int}{n:Nat}{Q:Int×Int×Nat->Shared->Prop}(hs:s.heap.IsSliceOf sl vl vu .none)(pl:IsPart vl lo)(pu:IsPart vu hi)
 (h:Q (((sIx n 0 lo:Nat):Int),1,sIx n n hi-sIx n 0 lo) s):wpAny (model prog w) A (Builtin.Slice.sliceApplied (.ref sl) (pure (n:Int))) Q E s:=by
 obtain ⟨os,hos,hcs,hds⟩:=id hs
 unfold Builtin.Slice.sliceApplied Builtin.Slice.sliceFields
 refine tqa (tqa (tqf hos hds (x:=vl) rfl (tqa (tqf hos hds (x:=vu) rfl (tqa (tqf hos hds (x:=.none) rfl (tqb ?_)))))))
 refine tqa (slicePart_none ?_)
 show wpAny _ _ (if ((1:Int)==0)=true then _ else _) _ _ s
 rw [if_neg (by decide)]
 refine tqa (zn2 pl (tqa (zn2 pu (tqa (tqb ?_)))))
 show wpAny _ _ (match Builtin.Slice.sliceAdjust lo hi 1 (n:Int) with|(lo,hi)=>pure (lo,(1:Int),Builtin.Slice.slicePlaces lo hi 1)) _ _ s
 rw [zwu lo hi n]
 show wpAny _ _ (pure (((sIx n 0 lo:Nat):Int),(1:Int),Builtin.Slice.slicePlaces ((sIx n 0 lo:Nat):Int) ((sIx n n hi:Nat):Int) 1)) _ _ s
 rw [zvp]
 exact tqb h
theorem z0i (xs:Array Value)(i k:Nat):((List.range k).filterMap fun (m:Nat)=>xs[((i:Int)+(m:Int)*1).toNat]?).toArray=((xs.toList.drop i).take k).toArray:=by
 have e:(fun (m:Nat)=>xs[((i:Int)+(m:Int)*1).toNat]?)=fun m=>xs[i+m]?:=by
  funext m
  have:((i:Int)+(m:Int)*1).toNat=i+m:=by omega
  rw [this]
 rw [e]
 have:=pick_run xs i k
 rw [List.filterMap_map] at this
 have e2:((fun x=>xs[x]?)∘fun x=>i+x)=fun m=>xs[i+m]?:=rfl
 rw [e2] at this
 rw [this]
theorem zm6 {t sl:Addr}{items:Array Value}{vl vu:Value}{lo hi:Option Int}{Q:Value->Shared->Prop}(ht:IsTup s.heap t items)(hs:s.heap.IsSliceOf sl vl vu .none)(pl:IsPart vl lo)(pu:IsPart vu hi)
 (hw:¬ (sIx items.size 0 lo=0/\sIx items.size items.size hi=items.size))
 (h:Q (.ref s.heap.objs.size) {s with heap:=s.heap.push {cls:=.type "tuple",data:=.seq ((items.toList.drop (sIx items.size 0 lo)).take (sIx items.size items.size hi-sIx items.size 0 lo)).toArray}})
 (hsz:items.size<=sizeLine):wpAny (model prog w) A (getItem (.ref t) (.ref sl)) Q E s:=by
 have htake:sizeOk (.seq ((items.toList.drop (sIx items.size 0 lo)).take (sIx items.size items.size hi-sIx items.size 0 lo)).toArray):=by
  show ((items.toList.drop (sIx items.size 0 lo)).take (sIx items.size items.size hi-sIx items.size 0 lo)).toArray.size<=sizeLine
  rw [List.size_toArray,List.length_take,List.length_drop,Array.length_toList]
  omega
 have hj:sIx items.size items.size hi<=items.size:=sIx_le _ _ (tqg _) hi
 obtain ⟨os,hos,hcs,hds⟩:=id hs
 have hTs:s.TypeIs (.ref sl) "slice":=⟨os,hos,hcs⟩
 unfold getItem
 try with_reducible refine tqo ?_
 first|refine tqa (tqb ?_)|skip
 refine tqa (wpAny_sequenceKey ht.typeIs (by decide) ?_)
 refine tqa (wpAny_callSpecial?_slot (name:=Str.ofString "__getitem__") ht.typeIs PyProof.Rows.slot_tuple_getitem
  (wpAny_call_entry PyProof.Rows.slot_tuple_getitem ht.typeIs entry_tuple_getitem ?_ (args_tuple_getitem _ _)))
 show wpAny _ _ (Builtin.Tuple.tupleItemsOf (.ref t) >>= _) _ _ s
 refine tqa (tupleItemsOf_ ht ?_)
 refine tqa (wpAny_typeOf hTs ?_)
 rw [if_pos (by decide)]
 refine tqa (zjb hs pl pu ?_)
 have hno:¬ ((((sIx items.size 0 lo:Nat):Int)==0&&(1:Int)==1&&(sIx items.size items.size hi-sIx items.size 0 lo)==items.size)=true):=by
  intro q
  rw [Bool.and_eq_true,Bool.and_eq_true] at q
  have q1:((sIx items.size 0 lo:Nat):Int)=0:=eq_of_beq q.1.1
  have q2:sIx items.size items.size hi-sIx items.size 0 lo=items.size:=eq_of_beq q.2
  exact hw ⟨by omega,by omega⟩
 show wpAny _ _ (if (((sIx items.size 0 lo:Nat):Int)==0&&(1:Int)==1&&(sIx items.size items.size hi-sIx items.size 0 lo)==items.size)=true then _ else _) _ _ s
 rw [if_neg hno,z0i]
 first
  |exact tqa (m:=Builtin.Tuple.tupleExact _) (wpAny_newObj_type (tqb ⟨_,rfl,tqb h⟩) htake)
  |exact tqa (m:=Builtin.Tuple.tupleExact _) (wpAny_newObj_type (tqa (tqb (tqb ⟨_,rfl,tqb h⟩))) htake)
  |exact tqa (tqa (m:=Builtin.Tuple.tupleExact _) (wpAny_newObj_type (tqb (tqb ⟨_,rfl,tqb h⟩)) htake))
  |exact tqa (tqa (m:=Builtin.Tuple.tupleExact _) (wpAny_newObj_type (tqb ⟨_,rfl,tqb h⟩) htake))
end
end HT
namespace L2
open PySem PySem.Spec PyProof.Rows
abbrev TO:=St->Hp->(Option Int->Hp->Prop)->Prop
def PO (X:Cx)(e:Option Expr)(t:TO):Prop:=
 ∀ (pins : List (Addr × Obj)) (s : Shared) (σ : St) (H : Hp) (Q : Option Int -> Hp -> Prop), Inv X pins σ H s -> t σ H Q ->
   wpAny (model X.prog X.w) X.A (evalPart e X.env) (fun u s'=>∃o H',Inv X pins σ H' s'/\IsPart u o/\Q o H') X.xe s
def z3b:TO:=fun _ H Q=>Q none H
def tPart (t:TE):TO:=fun σ H Q=>t σ H fun x H1=>∃i,x=.int i/\Q (some i) H1
section
variable {X:Cx}{e:Expr}{te:TE}{lo hi:Option Expr}{tl th:TO}{pos p2:Pos}
theorem z32:PO X none z3b:=by
 intro pins s σ H Q I h
 rw [evalPart_none]
 exact tqb ⟨none,H,I,.none,h⟩
theorem z31 (h:PE X e te):PO X (some e) (tPart te):=by
 intro pins s σ H Q I hw
 rw [evalPart_some]
 refine thn (h pins s σ H _ I hw) fun u s1 ⟨x,H1,I1,r1,q1⟩=>?_
 obtain ⟨i,rfl,q⟩:=q1
 obtain ⟨t,rfl⟩:=r1
 exact ⟨some i,H1,I1,.int i t,q⟩
def SlR (X:Cx)(r:V->Option Int->Option Int->Hp->VK->Prop):Prop:=
 ∀ (pins : List (Addr × Obj)) (s : Shared) (σ : St) (H : Hp) (x : V) (v vl vu : Value) (lo hi : Option Int) (sl : Addr) (Q : VK), Inv X pins σ H s -> RelV x v -> s.heap.IsSliceOf sl vl vu .none -> IsPart vl lo -> IsPart vu hi -> r x lo hi H Q ->
   ∃T id,typeLookup (.type T) "__getitem__"=pure (some (.builtin id))/\s.TypeIs v T/\wpAny (model X.prog X.w) X.A (getItem v (.ref sl)) (EP X pins σ Q) X.xe s
theorem SlR.or {r r':V->Option Int->Option Int->Hp->VK->Prop}(h:SlR X r)(h':SlR X r'):SlR X (fun x lo hi H Q=>r x lo hi H Q\/r' x lo hi H Q):=by
 intro pins s σ H x v vl vu lo hi sl Q I rx hs pl pu q
 rcases q with q|q
 ·exact h pins s σ H x v vl vu lo hi sl Q I rx hs pl pu q
 ·exact h' pins s σ H x v vl vu lo hi sl Q I rx hs pl pu q
def tSl (r:V->Option Int->Option Int->Hp->VK->Prop)(te:TE)(tl th:TO):TE:=fun σ H Q=>te σ H fun x H1=>tl σ H1 fun l H2=>th σ H2 fun u H3=>r x l u H3 Q
theorem zsr {r:V->Option Int->Option Int->Hp->VK->Prop}(hr:SlR X r)(he:PE X e te)(hl:PO X lo tl)(hu:PO X hi th):PE X (.Subscript e (.Slice lo hi none p2) pos) (tSl r te tl th):=by
 intro pins s σ H Q I h
 refine Subscript_ (thn (he pins s σ H _ I h) fun v s1 ⟨x,H1,I1,r1,q1⟩=>?_)
 refine wpAny_Slice (thn (hl pins s1 σ H1 _ I1 q1) fun vl s2 ⟨l,H2,I2,pl,q2⟩=>thn (hu pins s2 σ H2 _ I2 q2) fun vu s3 ⟨u,H3,I3,pu,q3⟩=>?_)
 rw [evalPart_none]
 refine tqb ?_
 have I4:Inv X pins σ H3 {s3 with heap:=s3.heap.push {cls:=.type "slice",data:=.fields #[vl,vu,.none]}}:=I3.kept (t':=s3.toks) fun b ob q=>tqc _ q
 obtain ⟨T,id,hT,ht,hg⟩:=hr pins {s3 with heap:=s3.heap.push {cls:=.type "slice",data:=.fields #[vl,vu,.none]}} σ H3 x v vl vu l u s3.heap.objs.size Q I4 r1 (Heap.IsSliceOf.new ..) pl pu q3
 show wpAny (model X.prog X.w) X.A (subscriptTail e (.Slice lo hi none p2) v (.ref s3.heap.objs.size)) (EP X pins σ Q) X.xe {s3 with heap:=s3.heap.push {cls:=.type "slice",data:=.fields #[vl,vu,.none]}}
 exact tail_any (ops:=[.ref s3.heap.objs.size,v]) ht hT hg (by with_unfolding_all rfl)
def zmb (xs:List V)(lo hi:Option Int):List V:=(xs.drop (HT.sIx xs.length 0 lo)).take (HT.sIx xs.length xs.length hi-HT.sIx xs.length 0 lo)
theorem zm7 (xs:List V)(lo hi:Option Int):(zmb xs lo hi).length<=xs.length:=by
 unfold zmb
 rw [List.length_take,List.length_drop]
 omega
def rSlT (K:PySem.W.Frag):V->Option Int->Option Int->Hp->VK->Prop:=fun x lo hi H Q=>∃a xs,x=.ref a/\SqT K H a xs/\
 ¬ (HT.sIx xs.length 0 lo=0/\HT.sIx xs.length xs.length hi=xs.length)/\∀p,H p=none->Q (.ref p) (upd H p (.tup (zmb xs lo hi)))
theorem sl_tup:SlR X (rSlT X.K):=by
 intro pins s σ H x v vl vu lo hi sl Q I rx hs pl pu h
 obtain ⟨a,xs,rfl,hx,hw,q⟩:=h
 cases rx
 obtain ⟨its,r,ht,hz⟩:=I.tuple hx
 have hlen:its.toArray.size=xs.length:=by rw [List.size_toArray];exact r.length.symm
 refine ⟨"tuple",_,PyProof.Rows.slot_tuple_getitem.lookup,ht.typeIs,?_⟩
 refine HT.zm6 ht hs pl pu (by rw [hlen];exact hw) ?_ (by rw [hlen];exact hz)
 rw [hlen]
 refine ⟨.ref s.heap.objs.size,_,I.laid (t':=s.toks) (o:=.tup (zmb xs lo hi)) (fun b ob q=>tqc _ q) (tqg _) ?_,rfl,q _ (I.hok.fresh (tqg _))⟩
 exact ⟨tqh (zm7 xs lo hi) hz,_,(r.drop (HT.sIx xs.length 0 lo)).take (HT.sIx xs.length xs.length hi-HT.sIx xs.length 0 lo),IsTup.new _ _⟩
def rCatT (K:PySem.W.Frag):R2:=fun x y H Q=>∃a b xs ys,x=.ref a/\y=.ref b/\SqT K H a xs/\SqT K H b ys/\xs≠[]/\xs.length+ys.length<=sizeLine/\
 (ys=[]->Q (.ref a) H)/\(ys≠[]->∀p,H p=none->Q (.ref p) (upd H p (.tup (xs++ys))))
theorem Vals.nil_iff {xs:List V}{us:List Value}(r:Vals xs us):us=[]↔xs=[]:=by
 cases r with
 |nil=>simp
 |cons _ _=>simp
theorem z4a:OpR X (binaryOp .Add) (rCatT X.K):=by
 intro pins s σ H x y v u Q I rx ry h
 obtain ⟨a,b,xs,ys,rfl,rfl,ha,hb,hx,hz,q1,q2⟩:=h
 cases rx
 cases ry
 obtain ⟨its,r1,p1,_⟩:=I.tuple ha
 obtain ⟨its2,r2,p2,_⟩:=I.tuple hb
 refine HT.z5g p1 p2 (fun z=>hx (r1.nil_iff.mp z)) (fun z=>⟨.ref a,H,I,rfl,q1 (r2.nil_iff.mp z)⟩) (fun z=>?_) (by rw [<- r1.length,<- r2.length];exact hz)
 refine ⟨.ref s.heap.objs.size,_,I.laid (t':=s.toks) (o:=.tup (xs++ys)) (fun b ob q=>tqc _ q) (tqg _) ?_,rfl,q2 (fun w=>z (r2.nil_iff.mpr w)) _ (I.hok.fresh (tqg _))⟩
 exact ⟨by rw [List.length_append];exact hz,_,r1.append r2,IsTup.new _ _⟩
end
end L2
namespace L2
open PySem PySem.Spec PyProof.Rows
def ixN (n:Nat)(i:Int):Option Nat:=if 0<=i then (if i<n then some i.toNat else none) else if -(n:Int)<=i then some (i+n).toNat else none
def atI {α:Type}(xs:List α)(i:Int):Option α:=(ixN xs.length i).bind fun j=>xs[j]?
theorem zu4 {n:Nat}{i:Int}{j:Nat}(h:ixN n i=some j):seqIndex? i n=some j/\j<n/\-(n:Int)<=i/\i<n:=by
 unfold ixN at h
 by_cases h0:0<=i
 ·rw [if_pos h0] at h
  by_cases h1:i<n
  ·rw [if_pos h1] at h
   have e:i.toNat=j:=Option.some.inj h
   exact ⟨by rw [seqIndex_of h0 h1,e],by omega,by omega,h1⟩
  ·rw [if_neg h1] at h;cases h
 ·rw [if_neg h0] at h
  by_cases h1:-(n:Int)<=i
  ·rw [if_pos h1] at h
   have e:(i+n).toNat=j:=Option.some.inj h
   exact ⟨by rw [seqIndex_neg (by omega) h1,e],by omega,h1,by omega⟩
  ·rw [if_neg h1] at h;cases h
theorem zp4 {α:Type}{xs:List α}{i:Int}{v:α}(h:atI xs i=some v):∃j,seqIndex? i xs.length=some j/\xs[j]?=some v/\j<xs.length/\-(xs.length:Int)<=i/\i<xs.length:=by
 unfold atI at h
 cases e:ixN xs.length i with
 |none=>rw [e] at h;cases h
 | some j =>
   rw [e] at h
   obtain ⟨h1,h2,h3,h4⟩:=zu4 e
   exact ⟨j,h1,h,h2,h3,h4⟩
def zkv (b:Expr):Prop:=∀o i,subscripted b false o i=operate [o,i] (getItem o i)
def IxR (X:Cx)(r:R2):Prop:=
 ∀ (value slice : Expr) (pins : List (Addr × Obj)) (s : Shared) (σ : St) (H : Hp) (x y : V) (v u : Value) (Q : VK), Inv X pins σ H s -> RelV x v -> RelV y u -> r x y H Q ->
   subscripted slice false v u=operate [v,u] (getItem v u)->wpAny (model X.prog X.w) X.A (subscriptTail value slice v u) (EP X pins σ Q) X.xe s
def MtR (X:Cx)(id:String)(r:V->List V->Hp->VK->Prop):Prop:=
 ∀ (pins : List (Addr × Obj)) (s : Shared) (σ : St) (H : Hp) (x : V) (xs : List V) (v : Value) (us : List Value) (Q : VK), Inv X pins σ H s -> RelV x v -> Vals xs us -> r x xs H Q ->
   wpAny (model X.prog X.w) X.A (call (.builtin id) (v::us)) (EP X pins σ Q) X.xe s
section
variable {X:Cx}{a b:Expr}{ta tb:TE}{pos:Pos}
theorem IxR.or {r r':R2}(h:IxR X r)(h':IxR X r'):IxR X (fun x y H Q=>r x y H Q\/r' x y H Q):=by
 intro value slice pins s σ H x y v u Q I rx ry q hs
 rcases q with q|q
 ·exact h value slice pins s σ H x y v u Q I rx ry q hs
 ·exact h' value slice pins s σ H x y v u Q I rx ry q hs
theorem pe_ix {r:R2}(hr:IxR X r)(ha:PE X a ta)(hb:PE X b tb)(hs:zkv b):PE X (.Subscript a b pos) (tOp r ta tb):=by
 intro pins s σ H Q I h
 exact Subscript_ (binT ha hb I h fun v u s2 x y H2 I2 rx ry q=>hr a b pins s2 σ H2 x y v u Q I2 rx ry q (hs _ _))
def rIxL (K:PySem.W.Frag):R2:=fun x y H Q=>∃p xs i v,x=.ref p/\y=.int i/\SqL K H p xs/\atI xs i=some v/\Q v H
def rIxT (K:PySem.W.Frag):R2:=fun x y H Q=>∃p xs i v,x=.ref p/\y=.int i/\SqT K H p xs/\atI xs i=some v/\Q v H
def rIxS:R2:=fun x y H Q=>∃z i c,x=.str z/\y=.int i/\z.length<=sizeLine/\atI z.cps.toList i=some c/\Q (.str ⟨#[c]⟩) H
theorem z4o:IxR X (rIxL X.K):=by
 intro value slice pins s σ H x y v u Q I rx ry h hs
 obtain ⟨p,xs,i,z,rfl,rfl,hq,he,q⟩:=h
 cases rx
 obtain ⟨t,rfl⟩:=ry
 obtain ⟨its,r,pl,hz⟩:=I.list hq
 obtain ⟨j,h1,h2,h3,h4,h5⟩:=zp4 he
 obtain ⟨w,ew,rw'⟩:=r.get h2
 have hl:=r.length
 have hn:=zjl
 have fin:EP X pins σ Q w s:=⟨z,H,I,rw',q⟩
 by_cases h0:0<=i
 ·have hj:i.toNat=j:=by
   rw [seqIndex_of h0 h5] at h1
   exact Option.some.inj h1
  exact item_listR pl.isList h0 (by omega) (by rw [hj];simpa using ew) fin hs
 ·have hj:(i+(its.toArray.size:Int)).toNat=j:=by
   rw [seqIndex_neg (by omega) h4] at h1
   rw [List.size_toArray,<- hl]
   exact Option.some.inj h1
  exact subscriptTail_builtinR (x:=w) pl.isList.typeIs slot_list_getitem.lookup
   (wpAny_getItem_list_neg (Q:=fun r s'=>r=w/\EP X pins σ Q r s') pl.isList (by omega) (by rw [List.size_toArray]<;>omega) (by omega) (by rw [hj];simpa using ew) ⟨rfl,fin⟩) hs
theorem ix_tup:IxR X (rIxT X.K):=by
 intro value slice pins s σ H x y v u Q I rx ry h hs
 obtain ⟨p,xs,i,z,rfl,rfl,hq,he,q⟩:=h
 cases rx
 obtain ⟨t,rfl⟩:=ry
 obtain ⟨its,r,pl,hz⟩:=I.tuple hq
 obtain ⟨j,h1,h2,h3,h4,h5⟩:=zp4 he
 obtain ⟨w,ew,rw'⟩:=r.get h2
 have hl:=r.length
 have hn:=zjl
 have fin:EP X pins σ Q w s:=⟨z,H,I,rw',q⟩
 exact subscriptTail_builtinR (x:=w) pl.typeIs slot_tuple_getitem.lookup
  (getItem_tuple (j:=j) (Q:=fun r s'=>r=w/\EP X pins σ Q r s') pl (by omega) (by omega) (by rw [List.size_toArray,<- hl];exact h1) (by simpa using ew) ⟨rfl,fin⟩) hs
theorem ix_str:IxR X rIxS:=by
 intro value slice pins s σ H x y v u Q I rx ry h hs
 obtain ⟨z,i,c,rfl,rfl,hz,he,q⟩:=h
 obtain ⟨t,rfl⟩:=rx
 obtain ⟨t',rfl⟩:=ry
 obtain ⟨j,h1,h2,h3,h4,h5⟩:=zp4 he
 have hl:z.cps.toList.length=z.length:=by simp [Str.length]
 rw [hl] at h1 h4 h5
 have hn:=zjl
 exact tail_any (typeIs_str s z t) slot_str_getitem.lookup (getItem_str (c:=c) (by
  have e1:decide (i < -(2^63:Int))=false:=decide_eq_false (by omega)
  have e2:decide (i≥2^63)=false:=decide_eq_false (by omega)
  rw [e1,e2,Bool.or_false]) (by rw [h1];simpa using h2) ⟨.str ⟨#[c]⟩,H,I.tok _,⟨_,rfl⟩,q⟩) hs
def rIx (K:PySem.W.Frag):R2:=fun x y H Q=>rIxL K x y H Q\/rIxT K x y H Q\/rIxS x y H Q
theorem ix_seq:IxR X (rIx X.K):=z4o.or (ix_tup.or ix_str)
theorem zv5 (its:List Value)(n j:Nat)(u:Value):Obj.mapSeq (·.setIfInBounds j u) {cls:=.type "list",data:=.seq its.toArray n}={cls:=.type "list",data:=.seq (its.set j u).toArray n}:=by
 simp [Obj.mapSeq]
theorem Inv.lst {pins:List (Addr×Obj)}{σ:St}{H:Hp}{s:Shared}{p:Addr}{xs:List V}(I:Inv X pins σ H s)(h:H p=some (.lst xs)) :
 ∃(its:List Value) (n:Nat),Vals xs its/\s.heap.get? p=some {cls:=.type "list",data:=.seq its.toArray n}/\xs.length<=sizeLine:=by
 obtain ⟨z,its,n,r,e⟩:=I.hok p _ h
 exact ⟨its,n,r,e,z⟩
theorem Inv.lstUpd {pins:List (Addr×Obj)}{σ:St}{H:Hp}{s:Shared}{p:Addr}{xs ys:List V}{its its':List Value}{n n':Nat}{f:Obj->Obj}(I:Inv X pins σ H s)(h:H p=some (.lst xs))
 (ho:s.heap.get? p=some {cls:=.type "list",data:=.seq its.toArray n}) (hf:f {cls:=.type "list",data:=.seq its.toArray n}={cls:=.type "list",data:=.seq its'.toArray n'}) (r:Vals ys its') (hz:ys.length<=sizeLine) (t:Nat) :
 Inv X pins σ (upd H p (.lst ys)) {s with heap:=s.heap.update p f,toks:=t}:=by
 have e:(s.heap.update p f).get? p=some {cls:=.type "list",data:=.seq its'.toArray n'}:=by
  rw [tqm f ho (by rw [hf]<;>rfl),hf]
 refine I.write (x:=p) (e:=p) (by rw [h];trivial) (.inl rfl) (fun b u hb q=>(tql _ _ (Ne.symm hb)).trans q) ⟨_,e⟩ ?_
 exact ⟨hz,its',n',r,e⟩
def rSetL:V->V->V->Hp->(Hp->Prop)->Prop:=fun o i v H Q=>∃p xs k j,o=.ref p/\i=.int k/\H p=some (.lst xs)/\ixN xs.length k=some j/\Q (upd H p (.lst (xs.set j v)))
theorem set_list:PSet X rSetL:=by
 intro pins s σ H o i v ov iv u Q I ro ri rv h
 obtain ⟨p,xs,k,j,rfl,rfl,hp,hj,q⟩:=h
 cases ro
 obtain ⟨t,rfl⟩:=ri
 obtain ⟨its,n,r,ho,hz⟩:=I.lst hp
 obtain ⟨h1,h2,h3,h4⟩:=zu4 hj
 have hl:=r.length
 have hn:=zjl
 have I':Inv X pins σ (upd H p (.lst (xs.set j v))) {s with heap:=s.heap.update p (Obj.mapSeq (·.setIfInBounds j u))}:=
  I.lstUpd hp ho (zv5 its n j u) (r.set rv j) (by rw [List.length_set];exact hz) s.toks
 by_cases h0:0<=k
 ·have hk:k.toNat=j:=by
   rw [seqIndex_of h0 h4] at h1
   exact Option.some.inj h1
  exact PySem.W.ki_setAt ho h0 (by omega) (by rw [List.size_toArray,<- hl];exact h4) (by rw [hk];exact ⟨_,I',q⟩)
 ·have hk:(k+(its.toArray.size:Int)).toNat=j:=by
   rw [seqIndex_neg (by omega) h3] at h1
   rw [List.size_toArray,<- hl]
   exact Option.some.inj h1
  exact PySem.W.ki_setBack ho (by omega) (by rw [List.size_toArray,<- hl];exact h3) (by omega) (by rw [hk];exact ⟨_,I',q⟩)
theorem zsc (lo hi:Option Int)(n:Nat):(sliceBounds lo hi none n).1=((HT.sIx n 0 lo:Nat):Int)/\(sliceBounds lo hi none n).2.1=((HT.sIx n n hi:Nat):Int)/\(sliceBounds lo hi none n).2.2=1:=by
 refine ⟨?_,?_,rfl⟩
 ·cases lo with
  |none=>simp [sliceBounds,HT.sIx]
  | some i =>
    simp only [sliceBounds,HT.sIx,Option.getD_none,show (1:Int) > 0 by decide,if_true]
    by_cases h:i<0
    ·simp only [h,if_true]<;>omega
    ·simp only [h,if_false]<;>omega
 ·cases hi with
  |none=>simp [sliceBounds,HT.sIx]
  | some i =>
    simp only [sliceBounds,HT.sIx,Option.getD_none,show (1:Int) > 0 by decide,if_true]
    by_cases h:i<0
    ·simp only [h,if_true]<;>omega
    ·simp only [h,if_false]<;>omega
theorem zq8 (its:List Value)(lo hi:Option Int):slicePick its.toArray lo hi none=((its.drop (HT.sIx its.length 0 lo)).take (HT.sIx its.length its.length hi-HT.sIx its.length 0 lo)).toArray:=by
 obtain ⟨h1,h2,h3⟩:=zsc lo hi its.toArray.size
 unfold slicePick
 rw [h1,h2,h3]
 simp only [sliceRange_one,pick_run,List.size_toArray]<;>rfl
def rSlL (K:PySem.W.Frag):V->Option Int->Option Int->Hp->VK->Prop:=fun x lo hi H Q=>∃a xs,x=.ref a/\SqL K H a xs/\∀p,H p=none->Q (.ref p) (upd H p (.lst (zmb xs lo hi)))
theorem z3k:SlR X (rSlL X.K):=by
 intro pins s σ H x v vl vu lo hi sl Q I rx hs pl pu h
 obtain ⟨a,xs,rfl,hx,q⟩:=h
 cases rx
 obtain ⟨its,r,ht,hz⟩:=I.list hx
 have hlen:=r.length
 refine ⟨"list",_,slot_list_getitem.lookup,ht.isList.typeIs,?_⟩
 refine wpAny_getItem_list_slice ht.isList hs pl pu .none (by simp) ?_ (by rw [List.size_toArray]<;>omega)
 rw [zq8,<- hlen]
 refine ⟨.ref s.heap.objs.size,_,I.laid (t':=s.toks) (o:=.lst (zmb xs lo hi)) (fun b ob q=>tqc _ q) (tqg _) ?_,rfl,q _ (I.hok.fresh (tqg _))⟩
 exact ⟨tqh (zm7 xs lo hi) hz,_,0,(r.drop (HT.sIx xs.length 0 lo)).take (HT.sIx xs.length xs.length hi-HT.sIx xs.length 0 lo),tqe _ rfl⟩
theorem zt2:zc0 X (.builtin "len") (fun xs H Q=>∃p ys,xs=[.ref p]/\(SqL X.K H p ys\/SqT X.K H p ys)/\Q (.int ys.length) H):=by
 intro pins s σ H xs us Q I r h
 obtain ⟨p,ys,rfl,hq,q⟩:=h
 obtain ⟨u,rfl,rx⟩:=vals1 r
 cases rx
 have hn:=zjl
 rcases hq with hq|hq
 ·obtain ⟨its,r',pl,hz⟩:=I.list hq
  have hlen:=r'.length
  exact Calls.call_len_list pl.isList (by simp only [List.size_toArray]<;>omega) ⟨.int ys.length,H,I.tok _,⟨s.toks+1,by rw [List.size_toArray,hlen]⟩,q⟩
 ·obtain ⟨its,r',pl,hz⟩:=I.tuple hq
  have hlen:=r'.length
  exact len_tuple pl (by simp only [List.size_toArray]<;>omega) ⟨.int ys.length,H,I.tok _,⟨s.toks+1,by rw [List.size_toArray,hlen]⟩,q⟩
theorem zt1:zc0 X (.builtin "len") (fun xs H Q=>∃z,xs=[.str z]/\z.length<=sizeLine/\Q (.int z.length) H):=by
 intro pins s σ H xs us Q I r h
 obtain ⟨z,rfl,hz,q⟩:=h
 obtain ⟨u,rfl,t,rfl⟩:=vals1 r
 have hn:=zjl
 exact len_str (by omega) ⟨.int z.length,H,I.tok _,⟨_,rfl⟩,q⟩
theorem zc0.or {f:Value}{r r':List V->Hp->VK->Prop}(h:zc0 X f r)(h':zc0 X f r'):zc0 X f (fun xs H Q=>r xs H Q\/r' xs H Q):=by
 intro pins s σ H xs us Q I rs q
 rcases q with q|q
 ·exact h pins s σ H xs us Q I rs q
 ·exact h' pins s σ H xs us Q I rs q
theorem zt0:zc0 X (.type "list") (fun xs H Q=>∃p ys,xs=[.ref p]/\(SqL X.K H p ys\/SqT X.K H p ys)/\∀l,H l=none->Q (.ref l) (upd H l (.lst ys))):=by
 intro pins s σ H xs us Q I r h
 obtain ⟨p,ys,rfl,hq,q⟩:=h
 obtain ⟨u,rfl,rx⟩:=vals1 r
 cases rx
 have fin:∀(its:List Value),Vals ys its->ys.length<=sizeLine->∀(h':Heap) (c':Nat),(∀b o',s.heap.get? b=some o'->h'.get? b=some o')->
  h'.get? s.heap.objs.size=some {cls:=.type "list",dict:=none,data:=.seq its.toArray c',slots:=#[]}->EP X pins σ Q (.ref s.heap.objs.size) {s with heap:=h'}:=fun its r' hz h' c' kp e=>
  ⟨.ref s.heap.objs.size,_,I.laid (t':=s.toks) kp (tqg _) (show zdb X.prog X.w _ h' _ (.lst ys) from ⟨hz,its,c',r',e⟩),rfl,q _ (I.hok.fresh (tqg _))⟩
 rcases hq with hq|hq
 ·obtain ⟨its,r',pl,hz⟩:=I.list hq
  have hlen:=r'.length
  obtain ⟨o,ho,hc,n,hd⟩:=pl.isList
  exact call_list_seq p (.inl rfl) ho hc hd (fun h' c' kp e=>fin its r' hz h' c' kp e) (by simp only [List.size_toArray]<;>omega)
 ·obtain ⟨its,r',pl,hz⟩:=I.tuple hq
  have hlen:=r'.length
  obtain ⟨o,ho,hc,n,hd⟩:=pl
  exact call_list_seq p (.inr rfl) ho hc hd (fun h' c' kp e=>fin its r' hz h' c' kp e) (by simp only [List.size_toArray]<;>omega)
theorem zrd:zc0 X (.type "tuple") (fun xs H Q=>∃p ys,xs=[.ref p]/\((SqL X.K H p ys/\∀l,H l=none->Q (.ref l) (upd H l (.tup ys)))\/(SqT X.K H p ys/\Q (.ref p) H))):=by
 intro pins s σ H xs us Q I r h
 obtain ⟨p,ys,rfl,h⟩:=h
 obtain ⟨u,rfl,rx⟩:=vals1 r
 cases rx
 rcases h with ⟨hq,q⟩|⟨hq,q⟩
 ·obtain ⟨its,r',pl,hz⟩:=I.list hq
  have hlen:=r'.length
  refine call_tuple_list pl.isList (fun h' kp=>?_) (by simp only [List.size_toArray]<;>omega)
  have I1:Inv X pins σ H {s with heap:=h'}:=I.kept (t':=s.toks) kp
  have I2:Inv X pins σ (upd H h'.objs.size (.tup ys)) {s with heap:=h'.push {cls:=.type "tuple",data:=.seq its.toArray}}:=
   I1.laid (t':=s.toks) (fun b o e=>tqc _ e) (tqg _) (show zdb X.prog X.w _ _ _ (.tup ys) from ⟨hz,its,r',IsTup.new _ _⟩)
  exact ⟨.ref h'.objs.size,_,I2,rfl,q _ (I1.hok.fresh (tqg _))⟩
 ·obtain ⟨its,r',pl,hz⟩:=I.tuple hq
  exact call_tuple_same pl ⟨.ref p,H,I,rfl,q⟩
def tyV (K:PySem.W.Frag)(T:String)(x:V)(H:Hp):Prop:=match x with
 |.str _=>T="str"
 |.int _=>T="int"
 |.ref p=>(T="list"/\∃xs,SqL K H p xs)\/(T="tuple"/\∃o,K.lookup p=some o/\o.cls=.type "tuple"/\o.dict=none)\/
  (T="dict"/\((∃kvs,H p=some (.dK kvs))\/∃kvs,H p=some (.dT kvs)))\/(T="set"/\∃S n,H p=some (.set S n))
 |_=>False
theorem tyV_is {pins:List (Addr×Obj)}{σ:St}{H:Hp}{s:Shared}{T:String}{x:V}{v:Value}(I:Inv X pins σ H s)(r:RelV x v)(ty:tyV X.K T x H) :
 s.TypeIs v T/\∀a,v=.ref a->∃ob,s.heap.get? a=some ob/\ob.dict=none:=by
 cases x with
 | str z =>
   obtain ⟨t,rfl⟩:=r
   cases (show T="str" from ty)
   exact ⟨typeIs_str s z t,fun _ e=>nomatch e⟩
 | int i =>
   obtain ⟨t,rfl⟩:=r
   cases (show T="int" from ty)
   exact ⟨typeIs_int s i t,fun _ e=>nomatch e⟩
 | ref p =>
   cases r
   rcases ty with ⟨rfl,xs,hq⟩|⟨rfl,o,hk,hc,hd⟩|⟨rfl,hk⟩|⟨rfl,S,n,hk⟩
   ·obtain ⟨its,_,pl,_⟩:=I.list hq
    refine ⟨pl.isList.typeIs,fun a e=>?_⟩
    cases e
    obtain ⟨o,n,e,c,hd,_⟩:=pl
    exact ⟨o,e,hd⟩
   ·refine ⟨⟨o,I.kIn p o hk,hc⟩,fun a e=>?_⟩
    cases e
    exact ⟨o,I.kIn _ o hk,hd⟩
   ·have z:∃o,s.heap.get? p=some o/\o.ExactDict:=by
     rcases hk with ⟨kvs,hk⟩|⟨kvs,hk⟩
     ·obtain ⟨_,_,_,_,o,_,_,e,ex,_⟩:=I.hok p _ hk
      exact ⟨o,e,ex⟩
     ·obtain ⟨_,_,_,_,o,_,_,e,ex,_⟩:=I.hok p _ hk
      exact ⟨o,e,ex⟩
    obtain ⟨o,e,ex⟩:=z
    refine ⟨⟨o,e,ex.1⟩,fun a e2=>?_⟩
    cases e2
    exact ⟨o,e,ex.2.1⟩
   ·obtain ⟨o,_,_,_,e,ex,_⟩:=I.hok p _ hk
    refine ⟨⟨o,e,ex.1⟩,fun a e2=>?_⟩
    cases e2
    exact ⟨o,e,ex.2.1⟩
 |_=>exact False.elim ty
def tBM (K:PySem.W.Frag)(T:String)(r:V->List V->Hp->VK->Prop)(to:TE)(t:TA):TE:=fun σ H Q=>to σ H fun x H1=>tyV K T x H1/\t σ H1 fun xs H2=>r x xs H2 Q
variable {o e:Expr}{es:List Expr}{to:TE}{t:TA}{name:Str}{apos cpos:Pos}{T id:String}{r:V->List V->Hp->VK->Prop}
theorem zvq (pa:PlainAttrs T)(slot:Slot T name id)(hty:typeOf (.builtin id)=pure (.type "method_descriptor"))(hm:MtR X id r)(ho:PE X o to)(ha:PA X (e::es) t)
 (hbase:attributeBase o name X.env (eval o X.env)=eval o X.env:=by rfl)
 (hfew:((backTo cpos (starEach (e::es) X.env)).all (fun x=>!x.1)&&(backToKw cpos (keywordEach [] X.env)).all (fun x=>x.1.isSome)
  && decide ((e::es).length+([]:List Keyword).length+(if ([]:List Keyword).isEmpty then 0 else 1)<30))=true:=by rfl)
 (hline:(apos.endLine==cpos.line)=true:=by rfl) (hs:starEach (e::es) X.env=(false,eval e X.env)::starEach es X.env:=by rfl) (hplain:(backTo cpos (starEach es X.env)).any (·.1)=false:=by rfl) :
 PE X (.Call (.Attribute o name apos) (e::es) [] cpos) (tBM X.K T r to t):=by
 intro pins s σ H Q I h
 refine wpAny_Call_method_late hbase hfew hline rfl (thn (ho pins s σ H _ I h) fun v s1 ⟨x,H1,I1,r1,ty,q1⟩=>?_)
 obtain ⟨h1,h2⟩:=tyV_is I1 r1 ty
 refine ⟨T,id,pa,slot,hty,h1,h2,?_⟩
 have hA:=ha cpos pins s1 σ H1 _ I1 q1
 rw [hs] at hA ⊢
 refine Calls.callWith_builtin (by show (false||(backTo cpos (starEach es X.env)).any (·.1))=false;rw [hplain]<;>rfl) (Calls.evalArgs_plain ?_)
 exact thn hA fun us s2 ⟨vs,H2,I2,r2,q2⟩=>hm pins s2 σ H2 x vs v us Q I2 r1 r2 q2
end
end L2
namespace L2
open PySem PySem.Spec PyProof.Rows
def MtM (X:Cx)(id:String)(r:V->List V->Hp->VK->Prop):Prop:=
 ∀ (pins : List (Addr × Obj)) (s : Shared) (σ : St) (H : Hp) (x : V) (xs : List V) (v : Value) (us : List Value) (Q : VK), Inv X pins σ H s -> RelV x v -> Vals xs us -> r x xs H Q ->
   wpAny (model X.prog X.w) X.A (call (.builtin id) (v::us)) (EP X pins σ Q) X.xe s
theorem Vals.one:∀{x:V}{us:List Value},Vals [x] us->∃u,us=[u]/\RelV x u
 |_,_,.cons r .nil=>⟨_,rfl,r⟩
theorem Vals.rep {xs:List V}{us:List Value}(h:Vals xs us):∀k:Nat,Vals (List.replicate k xs).flatten (List.replicate k us).flatten
 |0=>.nil
 | k + 1 => by
   rw [List.replicate_succ,List.replicate_succ,List.flatten_cons,List.flatten_cons]
   exact Vals.append h (Vals.rep h k)
theorem foldl_rep (its:List Value):∀(k:Nat) (acc:List Value),
 List.foldl (fun x1 x2=>x1++x2) acc.toArray (List.replicate k its.toArray)=(acc++(List.replicate k its).flatten).toArray
 |0,acc=>by simp
 | k + 1, acc => by
   have e:acc.toArray++its.toArray=(acc++its).toArray:=by simp
   have e2:(acc++its)++(List.replicate k its).flatten=acc++(List.replicate (k+1) its).flatten:=by
    rw [List.replicate_succ,List.flatten_cons,List.append_assoc]
   rw [<- e2,<- foldl_rep its k (acc++its),<- e,List.replicate_succ,List.foldl_cons]
section
variable {X:Cx}{pins:List (Addr×Obj)}{σ:St}{H:Hp}{s:Shared}{l b:Addr}{xs ys zs:List V}
theorem Inv.lset {its its':List Value}{n:Nat}{f:Array Value->Array Value}{t':Nat}(I:Inv X pins σ H s)(hH:H l=some (.lst xs))
 (e:s.heap.get? l=some {cls:=.type "list",data:=.seq its.toArray n}) (hf:f its.toArray=its'.toArray) (hv:Vals ys its') (hz:ys.length<=sizeLine) :
 Inv X pins σ (upd H l (.lst ys)) {s with heap:=s.heap.update l (Obj.mapSeq f),toks:=t'}:=by
 have q:=PySem.IsL.update e f
 rw [hf] at q
 refine I.write (x:=l) (e:=l) (by rw [hH];exact trivial) (.inl rfl) (fun b' u hb hu=>(tql s.heap (Obj.mapSeq f) (Ne.symm hb)).trans hu) ⟨_,q⟩ ?_
 exact ⟨hz,its',_,hv,q⟩
theorem Inv.lnew {its:List Value}{t':Nat}(I:Inv X pins σ H s)(hv:Vals ys its)(hz:ys.length<=sizeLine) :
 Inv X pins σ (upd H s.heap.objs.size (.lst ys)) {s with heap:=s.heap.push {cls:=.type "list",data:=.seq its.toArray},toks:=t'}:=
 I.laid (fun _ _ q=>tqc _ q) (tqg _) ⟨hz,its,0,hv,tqe _ rfl⟩
theorem Inv.fresh (I:Inv X pins σ H s):H s.heap.objs.size=none:=I.hok.fresh (tqg _)
theorem Inv.lstM (I:Inv X pins σ H s)(hH:H l=some (.lst xs)):xs.length<=sizeLine/\∃(its:List Value) (n:Nat),Vals xs its/\xs.length=its.length/\s.heap.get? l=some {cls:=.type "list",data:=.seq its.toArray n}:=by
 obtain ⟨z,its,n,r,e⟩:=I.hok l _ hH
 exact ⟨z,its,n,r,r.length,e⟩
theorem zs9 {n:Nat}(h:n<=sizeLine):Builtin.List.listTooLong n=false:=by
 unfold Builtin.List.listTooLong
 exact decide_eq_false (by omega)
end
section
variable {X:Cx}
def z3v:V->List V->Hp->VK->Prop:=fun x vs H Q=>∃l xs y,x=.ref l/\vs=[y]/\H l=some (.lst xs)/\xs.length<sizeLine/\Q .non (upd H l (.lst (xs++[y])))
theorem zqn:MtM X "list.append" z3v:=by
 intro pins s σ H x vs v us Q I rx rv h
 obtain ⟨l,xs,y,rfl,rfl,hH,hz,q⟩:=h
 cases rx
 obtain ⟨u,rfl,ru⟩:=rv.one
 obtain ⟨z,its,n,r,hl,e⟩:=I.lstM hH
 refine call_meets F.slot_list_append ⟨_,e,rfl⟩ F.entry_list_append (F.args_list_append_2 _ _) (PySem.list_append l its.toArray n u (by rw [List.size_toArray];omega)) ⟨e,?_⟩
 refine ⟨.non,_,I.lset (its':=its++[u]) hH e (by simp) (r.append (.cons ru .nil)) ?_,rfl,q⟩
 rw [List.length_append,List.length_singleton]
 omega
def z3u:V->List V->Hp->VK->Prop:=fun x vs H Q=>∃l b xs zs,x=.ref l/\vs=[.ref b]/\H l=some (.lst xs)/\H b=some (.lst zs)/\xs.length+zs.length<=sizeLine/\Q .non (upd H l (.lst (xs++zs)))
theorem mt_extend:MtM X "list.extend" z3u:=by
 intro pins s σ H x vs v us Q I rx rv h
 obtain ⟨l,b,xs,zs,rfl,rfl,hH,hB,hz,q⟩:=h
 cases rx
 obtain ⟨u,rfl,ru⟩:=rv.one
 cases ru
 obtain ⟨z,its,n,r,hl,e⟩:=I.lstM hH
 obtain ⟨z2,its2,n2,r2,hl2,e2⟩:=I.lstM hB
 have hsz:its.toArray.size+its2.toArray.size<=sizeLine:=by rw [List.size_toArray,List.size_toArray];omega
 have hlong:¬ (!its.toArray.isEmpty&&Builtin.List.listTooLong (its.toArray.size+its2.toArray.size))=true:=by
  rw [zs9 hsz,Bool.and_false]
  exact tqj
 refine call_meets F.slot_list_extend ⟨_,e,rfl⟩ F.entry_list_extend (F.args_list_extend_2 _ _)
  (AutoSeq1.list_extend_list_list_0 l its.toArray n b its2.toArray n2 hlong (by rw [List.size_toArray];omega) (by omega)) ⟨e,e2,?_⟩
 refine ⟨.non,_,I.lset (its':=its++its2) hH e (by simp) (r.append r2) ?_,rfl,q⟩
 rw [List.length_append]
 omega
def rCat:R2:=fun x y H Q=>∃l b xs zs,x=.ref l/\y=.ref b/\H l=some (.lst xs)/\H b=some (.lst zs)/\xs.length+zs.length<=sizeLine/\∀p,H p=none->Q (.ref p) (upd H p (.lst (xs++zs)))
theorem op_cat:OpR X (binaryOp .Add) rCat:=by
 intro pins s σ H x y v u Q I rx ry h
 obtain ⟨l,b,xs,zs,rfl,rfl,hH,hB,hz,q⟩:=h
 cases rx
 cases ry
 obtain ⟨z,its,n,r,hl,e⟩:=I.lstM hH
 obtain ⟨z2,its2,n2,r2,hl2,e2⟩:=I.lstM hB
 refine PySem.P.add_list e e2 ?_ (by rw [List.size_toArray,List.size_toArray];omega)
 have ea:its.toArray++its2.toArray=(its++its2).toArray:=by simp
 rw [ea]
 exact ⟨.ref _,_,I.lnew (t':=s.toks) (r.append r2) (by rw [List.length_append];omega),rfl,q _ I.fresh⟩
def rRep:R2:=fun x y H Q=>∃l k xs,x=.ref l/\y=.int k/\H l=some (.lst xs)/\-(2^63)<=k/\k<2^63/\xs.length*k.toNat<=sizeLine/\
 ∀p,H p=none->Q (.ref p) (upd H p (.lst (List.replicate k.toNat xs).flatten))
theorem len_rep {α:Type}(xs:List α)(k:Nat):(List.replicate k xs).flatten.length=k*xs.length:=by
 induction k with
 |zero=>simp
 |succ k ih=>rw [List.replicate_succ,List.flatten_cons,List.length_append,ih,Nat.succ_mul,Nat.add_comm]
theorem op_rep:OpR X (binaryOp .Mult) rRep:=by
 intro pins s σ H x y v u Q I rx ry h
 obtain ⟨l,k,xs,rfl,rfl,hH,h1,h2,hz,q⟩:=h
 cases rx
 obtain ⟨t,rfl⟩:=ry
 obtain ⟨z,its,n,r,hl,e⟩:=I.lstM hH
 have hlen:its.toArray.size*k.toNat<=sizeLine:=by rw [List.size_toArray,<- hl];exact hz
 have hcap:¬ its.toArray.size*k.toNat > (2^63-1) / 8:=by
  have:(sizeLine:Nat)<=(2^63-1) / 8:=by decide
  omega
 have hfit:¬ (!Builtin.List.listFitsIndex k)=true:=by
  rw [fitsIndex_both h1 h2]
  exact tqj
 have hlong:¬ Builtin.List.listTooLong (its.toArray.size*k.toNat)=true:=by
  rw [zs9 hlen]
  exact tqj
 have hnew:List.foldl (fun x1 x2=>x1++x2) #[] (List.replicate (if its.toArray.isEmpty=true then 0 else k.toNat) its.toArray)=(List.replicate k.toNat its).flatten.toArray:=by
  have f0:∀m:Nat,List.foldl (fun x1 x2=>x1++x2) #[] (List.replicate m its.toArray)=(List.replicate m its).flatten.toArray:=fun m=>by
   have:=foldl_rep its m []
   rw [List.nil_append] at this
   exact this
  rw [f0]
  cases its with
  |nil=>simp
  |cons a r'=>rw [if_neg (by simp)]
 refine wpAny_binaryOp_repeat_ref (T:="list") (U:="int") (by decide) ⟨_,e,rfl⟩ (fun s'=>typeIs_int s' k t) noFill_list_mul F.fills_int_mul F.slot_int_rmul repeat_list F.slot_int_index.lookup
  (call_meets F.slot_int_rmul (typeIs_int s k t) F.entry_int_rmul (F.args_int_rmul_2 _ _) (int___rmul___int_list k t l its.toArray n)
   ⟨e,rfl,⟨_,e,rfl⟩,call_meets F.slot_list_mul ⟨_,e,rfl⟩ F.entry_list_mul (F.args_list_mul_2 _ _) (AutoListH.list___mul___list_int_3 l its.toArray n k t hfit hcap hlong) ⟨e,?_⟩⟩)
 rw [hnew]
 exact ⟨.ref _,_,I.lnew (t':=s.toks) (r.rep k.toNat) (by rw [len_rep,Nat.mul_comm];exact hz),rfl,q _ I.fresh⟩
end
end L2
namespace Att
open PySem PySem.W PySem.Calls PyProof.Rows
theorem zor {P:Params}{h:Heap}:∀(ns:List Int) (vs:List Value),WellAll P h vs (ns.map WData.int)->IntsAre vs ns:=by
 intro ns
 induction ns with
 | nil =>
   intro vs w
   rw [List.map_nil] at w
   cases w
   exact .nil
 | cons n ns ih =>
   intro vs w
   rw [List.map_cons] at w
   cases w with
   | cons a b =>
     cases a
     exact .cons _ _ (ih _ b)
theorem zxp {l:OpenLaw}{n:Nat}(hn:l.most=some n){P:Params}{h:Heap}{args:List WData}{vals:List Value}
 (hpre:l.row.toRowW.claim.pre args=true) (hwl:WellAll P h vals args) :
 ∃a vs ns,vals=[Value.ref a]/\args=[WData.list (ns.map WData.int)]/\h.get? a=some {cls:=.type "list",data:=.seq vs.toArray}/\IntsAre vs ns/\ns.length<=n:=by
 have hsh:WShape.hasAll [] args [.list .int]=true:=(pre_splitW hpre).1
 have hc:l.pre.holds [] {args:=args}=true:=(pre_splitW hpre).2
 obtain ⟨d,r,rfl,h1,h2⟩:=hasAllW_cons hsh
 obtain rfl:=hasAllW_nil h2
 obtain ⟨xs,rfl,h3⟩:=hasW_list h1
 obtain ⟨ns,rfl⟩:=items_int h3
 have hlen:ns.length<=n:=by
  unfold OpenLaw.pre at hc
  have h4:(WTm.not (.lt (.lit (.int (n:Int))) (.len (.arg 0)))).holds [] {args:=[.list (ns.map .int)]}=true:=by
   have h4:=(holds_andW hc).1
   rw [hn] at h4
   exact h4
  have h5:=condW_of h4 (w_not (w_lt w_lit (w_len_list (w_arg rfl))))
  rw [List.length_map] at h5
  refine Nat.le_of_not_lt fun q=>?_
  have q':(n:Int)<((ns.length:Nat):Int):=by omega
  first
   |(rw [decide_eq_true q'] at h5;exact absurd h5 (by decide))
   |(simp at h5;omega)
 cases hwl with
 | cons w1 w2 =>
   cases w2
   cases w1 with
   |list ho hall=>exact ⟨_,_,ns,rfl,rfl,ho,zor ns _ hall,hlen⟩
theorem zxw (l:OpenLaw)(args:List WData):l.row.toRowW.claim.post args (.bool true) args=true:=
 postW_of (r:=l.row.toRowW) (X:=(true==true))
  (show WShape.has [] (.bool true) .bool=true by first|rfl|decide|simp [WShape.has,WShape.arms,WShape.armsAll])
  (show (WTm.eq .res (.lit (.bool true))).value [] {args:=args,res:=some (.bool true),after:=args}=some (.bool (true==true)) from w_eq_bool (w_res rfl) w_lit) rfl
theorem attach_call {l:OpenLaw}{n:Nat}{q:Program}{loose:List Str}{XP:(Str->Option Value)->Heap->Prop}{YP:World->Heap->Prop}{d:DefRec}
 (hn:l.most=some n) (hdf:d.params.defaults=[])
 (call:∀(w:World) (s₀ s₁:Shared) (mg mb:Str->Option Value) (fa:Addr) (o:Obj) (pm cd doc:Value) (a:Addr) (vs:List Value) (ns:List Int),
  Ground q loose [] XP w s₀ mg mb s₁.heap->YP w s₁.heap->
  s₁.heap.get? fa=some o->o.data=.func (docDef d.name d.params d.body d.scope pm cd doc)->s₁.heap.CodeRec cd d.name->mg d.name=some (.ref fa)->
  s₁.heap.get? a=some {cls:=.type "list",data:=.seq vs.toArray}->IntsAre vs ns->ns.length<=n->s₁.gens=#[]->
  codeAny (model l.prog w) callerA (.call (.ref fa) ⟨[.ref a],[]⟩) (fun r s'=>r=.ok (.ret (.bool true))/\OldK s₁.heap s'.heap/\s'.os=s₁.os/\AllBare s'.gens) s₁) :
 WalkO q loose XP YP l.row.toRowW d [] (fun f vs=>PySem.call f vs):=by
 intro w s₀ s₁ mg mb G Y fa o pm cd doc dV kV ho hd hcd hD hmg hg args vals as hpre hlay hrd hwl hlo
 obtain rfl:dV=.none:=Dflts.none hD hdf
 obtain rfl:kV=.none:=Dflts.noKw hD
 obtain ⟨a,vs,ns,rfl,rfl,hobj,hints,hlen⟩:=zxp hn hpre hwl
 refine enter_call (codeAny_mono (call w s₀ s₁ mg mb fa o pm cd doc a vs ns G Y ho (fd_plain hd) hcd hmg hobj hints hlen hg) fun r s' hq=>?_)
 obtain ⟨rfl,h2,h3,h4⟩:=hq
 exact ⟨.inl ⟨.bool true,.bool true,[],rfl,fun _=>rfl,.bool true,zxw l _,fun _=>⟨List.Pairwise.nil,fun _ hm=>(nomatch hm)⟩⟩,h2,h3,h4⟩
end Att
namespace L2
open PySem PySem.Spec PyProof.Rows
theorem zqb:∀{vs:List Value}{ns:List Int},IntsAre vs ns->Vals (ns.map V.int) vs
 |_,_,.nil=>.nil
 |_,_,.cons n t h=>.cons ⟨t,rfl⟩ (zqb h)
def Only (H:Hp):Prop:=∀b,H b=none\/∃o xs,H b=some (.frz o (.lst xs))
theorem z1l {P:Program}{w:World}{K:PySem.W.Frag}{mg mb:Str->Option Value}{CX:CXT}{k:Nat}{fa a:Addr}{fd:FuncData}{x:Str}{sp:Sp}{s₁:Shared}{vs:List Value}{ns:List Int}
 (KX:K.In s₁.heap) (hns:s₁.heap.Ns mainGlobals mg) (hb:s₁.heap.Ns builtinsNs mb) (hbb:∀x:Str,x≠"__name__"->mb x=bootBuiltins x) (hlim:s₁.heap.NoLimit) (hg:s₁.gens=#[])
 (ha:s₁.heap.get? a=some {cls:=.type "list",data:=.seq vs.toArray}) (hi:IntsAre vs ns) (hl:ns.length<=sizeLine) (hr:zcl k callerA)
 (F:∀base:Heap,K.In base->base.Ns mainGlobals mg->zkf P w K mg base CX k fa fd [x] sp) (hbind:∀(s:Shared) (u:Value),BindsTo s fd ⟨[u],[]⟩ [(x,u)])
 (hsp:∀H:Hp,Only H->SqL K H a (ns.map V.int)->sp [.ref a] H (fun v _=>v=.bl true) fun _ _ _=>False)
 (hCX:∀H e s',CX [] H s₁ (fun _ _ _=>False) e s'->False) :
 codeAny (model P w) callerA (.call (.ref fa) ⟨[.ref a],[]⟩) (fun r s'=>r=.ok (.ret (.bool true))/\OldK s₁.heap s'.heap/\s'.os=s₁.os/\AllBare s'.gens) s₁:=by
 have rv:=zqb hi
 have lenV:=hi.length
 have core:∀H:Hp,Only H->SqL K H a (ns.map V.int)->HOk P w H s₁.heap->(∀b,H b≠none->b=a)->(H a≠none->K.lookup a=none)->
  codeAny (model P w) callerA (.call (.ref fa) ⟨[.ref a],[]⟩) (fun r s'=>r=.ok (.ret (.bool true))/\OldK s₁.heap s'.heap/\s'.os=s₁.os/\AllBare s'.gens) s₁:=by
  intro H hO hS hok hA hK
  have base_of:∀{b:Addr}{o:Obj},s₁.heap.get? b=some o->H b=none->(zlj s₁.heap H).get? b=some o:=fun e n=>z1u e n
  have noA:∀{b:Addr}{o:Obj}{es:Array DictEntry}{ep:Nat},s₁.heap.get? b=some o->o.data=.dict es ep->H b=none:=fun {b o es ep} e d=>by
   cases q:H b with
   |none=>rfl
   | some u =>
     have e':b=a:=hA b (by rw [q];simp)
     subst e'
     rw [ha] at e;cases e
     have d':Data.seq vs.toArray _=Data.dict es ep:=d
     cases d'
  have nsK:∀{b:Addr}{m:Str->Option Value},s₁.heap.Ns b m->(zlj s₁.heap H).Ns b m:=fun {b m} ⟨o,es,ep,e,d,r⟩=>⟨o,es,ep,base_of e (noA e d),d,r⟩
  have hKb:K.In (zlj s₁.heap H):=fun b o e=>base_of (KX b o e) (by
   cases q:H b with
   |none=>rfl
   | some u =>
     have e':b=a:=hA b (by rw [q];simp)
     subst e'
     rw [hK (by rw [q];simp)] at e;cases e)
  have hM:Mod K mg (zlj s₁.heap H):=⟨hKb,nsK hns,⟨mb,nsK hb,hbb⟩,let ⟨mc,h1,h2⟩:=hlim;⟨mc,nsK h1,h2⟩⟩
  have e0:znu P w K mg (zlj s₁.heap H) callerA [] s₁ H:=⟨rfl,hM,fun b o e=>z4b e,Nat.le_of_eq (zyr _ _),trivial,fun b hb=>absurd (show b∈([]:List Addr) from hb) (by simp),hok,.of_eq hg⟩
  refine codeAny_mono ((F _ hKb (nsK hns)).run callerA [] s₁ H ⟨[.ref a],[]⟩ [.ref a] [.ref a] _ _ hr e0 (hbind s₁ (.ref a)) (.cons rfl .nil) (hsp H hO hS)) fun r s' h=>?_
  cases r with
  |error e=>exact (hCX H e s' h).elim
  | ok fl =>
    cases fl with
    |next=>exact False.elim h
    |brk=>exact False.elim h
    |cont=>exact False.elim h
    | ret u =>
      obtain ⟨v,H',os,bare,un,hok',r',q⟩:=h
      have q':v=.bl true:=q
      subst q'
      obtain rfl:u=Value.bool true:=r'
      refine ⟨rfl,OldK.of_keep fun b o e=>?_,os,bare⟩
      cases q:H b with
      |none=>exact un.keep b o e q (by intro z;exact absurd (show b∈([]:List Addr) from z) (by simp)) (by simp)
      | some u =>
        rcases hO b with z|⟨ob,xs,z⟩
        ·rw [q] at z;cases z
        ·have z2:=un.frzs b ob _ z
         obtain ⟨e1,_⟩:=hok b _ z
         obtain ⟨e2,_⟩:=hok' b _ z2
         rw [e] at e1;cases e1
         exact e2
 cases hk:K.lookup a with
 | some o =>
   have e:=KX a o hk
   rw [ha] at e
   cases e
   refine core (fun _=>none) (fun _=>.inl rfl) (.inr ⟨_,vs.toArray,_,hk,rfl,rfl,rfl,by rw [List.size_toArray,lenV];exact hl,by simpa using rv⟩) (fun b u z=>by have z':(none:Option HO)=some u:=z;cases z') (fun b z=>absurd rfl z) fun z=>absurd rfl z
 | none =>
   refine core (fun b=>if b=a then some (.frz {cls:=.type "list",data:=.seq vs.toArray} (.lst (ns.map V.int))) else none) (fun b=>?_) (.inl (.inr ⟨{cls:=.type "list",data:=.seq vs.toArray},if_pos rfl⟩)) (fun b u z=>?_) (fun b z=>?_) fun _=>hk
   ·by_cases hb:b=a
    ·exact .inr ⟨_,_,if_pos hb⟩
    ·exact .inl (if_neg hb)
   ·by_cases hb:b=a
    ·have z':=(if_pos hb).symm.trans z
     cases z'
     subst hb
     exact ⟨ha,by rw [List.length_map];exact hl,vs,_,rv,ha⟩
    ·have z':=(if_neg hb).symm.trans z
     cases z'
   ·by_cases hb:b=a
    ·exact hb
    ·exact absurd (if_neg hb) z
end L2
namespace L2
open PySem PySem.Spec PyProof.Rows
theorem z28 {l:PySem.W.OpenLaw}{n k:Nat}{q:Program}{loose:List Str}{XP:(Str->Option Value)->Heap->Prop}{YP:World->Heap->Prop}{d:DefRec}{K:Params->PySem.W.Frag}{CX:World->CXT}{sp:World->Sp}{x:Str}
 (hn:l.most=some n) (hn2:n<=sizeLine) (hdf:d.params.defaults=[]) (hr:zcl k callerA)
 (hY:∀(w:World) (h:Heap),YP w h->(K w.params).In h)
 (F:∀(w:World) (mg:Str->Option Value) (fa:Addr) (h:Heap),(K w.params).In h->h.Ns mainGlobals mg->mg d.name=some (.ref fa)->
  ∃ fd : FuncData, (∀ (s : Shared) (u : Value), BindsTo s fd ⟨[u], []⟩ [(x, u)]) /\
    ∀base:Heap,(K w.params).In base->base.Ns mainGlobals mg->zkf l.prog w (K w.params) mg base (CX w) k fa fd [x] (sp w))
 (hsp:∀(w:World) (H:Hp) (a:Addr) (ns:List Int),ns.length<=n->Only H->SqL (K w.params) H a (ns.map V.int)->sp w [.ref a] H (fun v _=>v=.bl true) fun _ _ _=>False)
 (hCX:∀(w:World) (H:Hp) (s:Shared) (e:Value) (s':Shared),CX w [] H s (fun _ _ _=>False) e s'->False) :
 PySem.W.WalkO q loose XP YP l.row.toRowW d [] (fun f vs=>PySem.call f vs):=by
 refine Att.attach_call hn hdf fun w s₀ s₁ mg mb fa o pm cd doc a vs ns G Y ho hd hcd hmg hobj hints hlen hg=>?_
 have KX:=hY w _ Y
 obtain ⟨fd,hb,hF⟩:=F w mg fa _ KX G.T.g hmg
 exact z1l KX G.T.g G.T.b G.T.builtins G.T.nolimit hg hobj hints (tqh hlen hn2) hr hF hb (fun H hO hS=>hsp w H a ns hlen hO hS) fun H e s'=>hCX w H s₁ e s'
end L2
namespace L2
open PySem PySem.Spec PyProof.Rows
def zfb (s:Stmt):Arguments:=match s with
 |.FunctionDef _ a _ _ _ _ _ _ _ _=>a
 |_=>{posonlyargs:=[],args:=[],vararg:=none,kwonlyargs:=[],kw_defaults:=[],kwarg:=none,defaults:=[]}
def zdg (s:Stmt):List Stmt:=match s with
 |.FunctionDef _ _ b _ _ _ _ _ _ _=>b
 |_=>[]
def za0 (s:Stmt):Scope:=match s with
 |.FunctionDef _ _ _ _ _ _ sc _ _ _=>sc
 |_=>{kind:=.function,names:=[],isGenerator:=false,isCoroutine:=false}
abbrev E0:XK:=fun _ _ _=>False
structure Fun (K:PySem.W.Frag) (x qual:Str) (st:Stmt) (f:Addr) (fd:FuncData):Prop where
 ex:∃(oc:Value) (od:Option Addr) (kV doc pm:Value) (an:Option Addr) (cdv ct:Value) (osl:Array (Option Value)),
  fd=PySem.W.fnOf x qual (zfb st) (zdg st) (za0 st) .none kV doc pm an cdv ct/\K.lookup f=some ⟨oc,od,.func fd,osl⟩/\PySem.W.codeIn K cdv qual=true
 kp:PySem.W.keepIn K (.ref f)=true
section
variable {P:Program}{w:World}{K:PySem.W.Frag}{mg:Str->Option Value}{base:Heap}
theorem Fun.binds {x qual:Str}{st:Stmt}{f:Addr}{fd:FuncData}{ps:List Str}(F:Fun K x qual st f fd)
 (h:∀(kV doc pm:Value) (an:Option Addr) (cdv ct:Value) (us:List Value),us.length=ps.length->bindArgs (PySem.W.fnOf x qual (zfb st) (zdg st) (za0 st) .none kV doc pm an cdv ct) ⟨us,[]⟩=pure (ps.zip us)):Binds K fd ps []:=by
 obtain ⟨oc,od,kV,doc,pm,an,cdv,ct,osl,rfl,lk,hcd⟩:=F.ex
 exact .all (h kV doc pm an cdv ct)
theorem zyt {x qual:Str}{st:Stmt}{f:Addr}{oc:Value}{od an:Option Addr}{osl:Array (Option Value)}{kV doc pm cdv ct:Value}(l:K.lookup f=some ⟨oc,od,.func (PySem.W.fnOf x qual (zfb st) (zdg st) (za0 st) .none kV doc pm an cdv ct),osl⟩)
 (c:PySem.W.codeIn K cdv qual=true) (k:PySem.W.keepIn K (.ref f)=true):Fun K x qual st f (PySem.W.fnOf x qual (zfb st) (zdg st) (za0 st) .none kV doc pm an cdv ct):=⟨⟨oc,od,kV,doc,pm,an,cdv,ct,osl,rfl,l,c⟩,k⟩
end
theorem zbz {A:Around}{k:Nat}(hr:zcl k A):A.units+1<cLine:=Nat.lt_of_le_of_lt (Nat.add_le_add_left (by decide:1<=64) _) hr.units
theorem ite2 {c A B:Prop}[Decidable c](h1:c->A)(h2:¬ c->B):if c then A else B:=by
 by_cases h:c
 ·rw [if_pos h]
  exact h1 h
 ·rw [if_neg h]
  exact h2 h
end L2
namespace LD
open PySem
inductive D where
 |non|bl (b:Bool)|int (i:Int)|str (x:Str)|tup (ds:List D)|lst (ds:List D)|frz (ds:List D)|cell (k:Nat)|fn (f:Nat)|exc (c:Nat) (p:Option Int)
 deriving Inhabited
abbrev Mem:=List (List D)
abbrev Env:=List (Option D)
inductive Res (α:Type) where
 |ok (a:α) (M:Mem)
 |err (x:D) (M:Mem)
 |bad
def Res.bind {α β:Type}(r:Res α)(f:α->Mem->Res β):Res β:=match r with
 |.ok a M=>f a M
 |.err x M=>.err x M
 |.bad=>.bad
@[simp] theorem Res.bind_ok {α β:Type}(a:α)(M:Mem)(f:α->Mem->Res β):(Res.ok a M).bind f=f a M:=rfl
@[simp] theorem Res.bind_err {α β:Type}(x:D)(M:Mem)(f:α->Mem->Res β):(Res.err x M:Res α).bind f=.err x M:=rfl
@[simp] theorem Res.bind_bad {α β:Type}(f:α->Mem->Res β):(Res.bad:Res α).bind f=.bad:=rfl
inductive Bin where
 |add|sub|mul|fdiv|mod|pow
 deriving DecidableEq
inductive Cmp where
 |eq|ne|lt|le|gt|ge|isN|notN|isin|notin
 deriving DecidableEq
inductive Ty where
 |int|bool|str|tuple|list|own (c:Str)
 deriving DecidableEq
inductive Blt where
 |len|tuple|list (m:Bool)|listR (m:Bool)|all|sum|repr
 deriving DecidableEq
inductive Tgt where
 |one (i:Nat)
 |tup (l:List Nat)
def sz:Nat:=16777216
def zb6 (m:Bool)(ds:List D)(M:Mem):Res D:=if ds.length<=sz then (if m then .ok (.cell M.length) (M++[ds]) else .ok (.lst ds) M) else .bad
def zle (ds:List D)(M:Mem):Res D:=if ds.length<=sz then .ok (.tup ds) M else .bad
def zcp (M:Mem):D->Option (List D)
 |.lst ds=>some ds
 |.tup ds=>some ds
 |.frz ds=>some ds
 |.cell k=>M[k]?
 |_=>none
def rdD (M:Mem):D->Option (List D)
 |.lst ds=>some ds
 |.frz ds=>some ds
 |.cell k=>M[k]?
 |_=>none
def zjk (M:Mem):D->Option (List D)
 |.lst ds=>some ds
 |.cell k=>M[k]?
 |_=>none
def zas:Nat->D->Bool
 |_,.non=>true
 |_,.bl _=>true
 |_,.int _=>true
 |_,.str x=>x.cps.all (· < 0x110000)
 |n+1,.tup ds=>ds.all (zas n)
 |n+1,.lst ds=>ds.all (zas n)
 |0,.tup _=>false
 |0,.lst _=>false
 |_,.frz _=>false
 |_,.cell _=>false
 |_,.fn _=>false
 |_,.exc _ _=>false
mutual
def zbr:D->D->Bool
 |.non,.non=>true
 |.bl a,.bl b=>a==b
 |.bl a,.int b=>(if a then 1 else 0)==b
 |.int a,.bl b=>a==(if b then 1 else 0)
 |.int a,.int b=>a==b
 |.str a,.str b=>a==b
 |.tup a,.tup b=>zmc a b
 |.lst a,.lst b=>zmc a b
 |_,_=>false
def zmc:List D->List D->Bool
 |[],[]=>true
 |a::r,b::t=>zbr a b&&zmc r t
 |[],_::_=>false
 |_::_,[]=>false
end
def isS:D->Bool
 |.str _=>true
 |_=>false
def eqD (a b:D):Option Bool:=if isS a&&isS b||zas 64 a&&zas 64 b then some (zbr a b) else none
def view (M:Mem):D->D
 | .cell k => match M[k]? with
   |some ds=>.lst ds
   |none=>.cell k
 |.frz ds=>.lst ds
 |d=>d
def zcw:Nat->Mem->D->D
 |0,_,d=>d
 | n + 1, M, .cell k => match M[k]? with
   |some ds=>.lst (ds.map (zcw n M))
   |none=>.cell k
 |n+1,M,.frz ds=>.lst (ds.map (zcw n M))
 |n+1,M,.lst ds=>.lst (ds.map (zcw n M))
 |n+1,M,.tup ds=>.tup (ds.map (zcw n M))
 |_+1,_,d=>d
def eqM (M:Mem)(a b:D):Option Bool:=match eqD (view M a) (view M b) with
 |some r=>some r
 |none=>eqD (zcw 64 M a) (zcw 64 M b)
def zj7 (M:Mem):D->Option Bool
 |.non=>some false
 |.bl b=>some b
 |.int i=>some (i != 0)
 |.str x=>if x.cps.size<=sz then some (x.cps.size != 0) else none
 |.tup ds=>some (!ds.isEmpty)
 |.lst ds=>some (!ds.isEmpty)
 |.frz ds=>some (!ds.isEmpty)
 |.cell k=>(M[k]?).map fun ds=>!ds.isEmpty
 |.fn _=>none
 |.exc _ _=>none
def ixN (n:Nat)(i:Int):Option Nat:=if 0<=i then (if i<n then some i.toNat else none) else if -(n:Int)<=i then some (i+n).toNat else none
def zei (m:Bool)(o:Bin)(a b:D)(M:Mem):Res D:=match o,a,b with
 |.add,.int i,.int j=>.ok (.int (i+j)) M
 |.add,.str x,.str y=>if x.cps.size+y.cps.size<=sz then .ok (.str ⟨x.cps++y.cps⟩) M else .bad
 |.add,.tup x,.tup y=>zle (x++y) M
 | .add, a, b => match zjk M a, zjk M b with
   |some x,some y=>zb6 m (x++y) M
   |_,_=>.bad
 |.sub,.int i,.int j=>.ok (.int (i-j)) M
 |.mul,.int i,.int j=>if (-(2^64)<i/\i<2^64)\/(-(2^64)<j/\j<2^64) then .ok (.int (i*j)) M else .bad
 |.mul,.tup x,.int j=>if x.length*j.toNat<=sz/\-(2^63)<=j/\j<2^63 then .ok (.tup (List.replicate j.toNat x).flatten) M else .bad
 | .mul, a, .int j => match zjk M a with
   |some x=>if x.length*j.toNat<=sz/\-(2^63)<=j/\j<2^63 then zb6 m (List.replicate j.toNat x).flatten M else .bad
   |none=>.bad
 |.fdiv,.int i,.int j=>if 0<j/\j<1073741824 then .ok (.int (i / j)) M else .bad
 |.mod,.int i,.int j=>if 0<j then .ok (.int (i % j)) M else .bad
 |.pow,.int i,.int j=>if 0<=j/\j<=1000000/\i.natAbs<2^64 then .ok (.int (i^j.toNat)) M else .bad
 |_,_,_=>.bad
def inL (x:D)(ds:List D):Option Bool:=if zas 64 x&&ds.all (zas 63) then some (ds.any fun y=>zbr y x) else none
def zi5 (x y:Str):Bool:=!(Builtin.Str.occurrences y x 0 y.length 1).isEmpty
def zli:D->Bool
 |.non=>true
 |_=>false
def zb2 (o:Cmp)(a b:D)(M:Mem):Option Bool:=match o,a,b with
 |.eq,a,b=>eqM M a b
 |.ne,a,b=>(eqM M a b).map (!·)
 |.lt,.int i,.int j=>some (decide (i<j))
 |.le,.int i,.int j=>some (decide (i<=j))
 |.gt,.int i,.int j=>some (decide (j<i))
 |.ge,.int i,.int j=>some (decide (j<=i))
 |.isN,a,.non=>some (zli a)
 |.notN,a,.non=>some (!zli a)
 |.isin,.str x,.str y=>some (zi5 x y)
 |.notin,.str x,.str y=>some (!zi5 x y)
 |.isin,a,b=>(zcp M b).bind (inL (view M a))
 |.notin,a,b=>((zcp M b).bind (inL (view M a))).map (!·)
 |_,_,_=>none
def zf6 (a i:D)(M:Mem):Option D:=match a,i with
 |.str x,.int i=>if x.cps.size<=sz then (ixN x.cps.size i).bind fun j=>(x.cps[j]?).map fun c=>.str ⟨#[c]⟩ else none
 |a,.int i=>(zcp M a).bind fun ds=>(ixN ds.length i).bind fun j=>ds[j]?
 |_,_=>none
def sIx (n d:Nat):D->Option Nat
 |.non=>some d
 |.int v=>some (if v<0 then (v+(n:Int)).toNat else min v.toNat n)
 |_=>none
def zci:Bool->D->Bool
 |true,.int _=>true
 |false,.non=>true
 |_,_=>false
def cut {α:Type}(xs:List α)(lo hi:Nat):List α:=(xs.drop lo).take (hi-lo)
def zew (m:Bool)(a lo hi:D)(M:Mem):Res D:=match a with
 | .tup xs => match sIx xs.length 0 lo, sIx xs.length xs.length hi with
   |some l,some h=>.ok (.tup (cut xs l h)) M
   |_,_=>.bad
 | a => match rdD M a with
   | some xs => match sIx xs.length 0 lo, sIx xs.length xs.length hi with
     |some l,some h=>zb6 m (cut xs l h) M
     |_,_=>.bad
   |none=>.bad
def zca (t:Ty):D->Option Bool
 |.non=>some false
 |.bl _=>some (t==.bool||t==.int)
 |.int _=>some (t==.int)
 |.str _=>some (t==.str)
 |.tup _=>some (t==.tuple)
 |.lst _=>some (t==.list)
 |.frz _=>some (t==.list)
 |.cell _=>some (t==.list)
 |.fn _=>none
 |.exc _ _=>none
def boolsOf:List D->Option (List Bool)
 |[]=>some []
 |.bl b::r=>(boolsOf r).map (b::·)
 |_=>none
def intsOf:List D->Option (List Int)
 |[]=>some []
 |.int b::r=>(intsOf r).map (b::·)
 |_=>none
def zff (f:Blt)(ds:List D)(M:Mem):Res D:=match f,ds with
 |.len,[.str x]=>if x.cps.size<=sz then .ok (.int x.cps.size) M else .bad
 | .len, [d] => match zcp M d with
   |some xs=>.ok (.int xs.length) M
   |none=>.bad
 |.tuple,[.tup xs]=>.ok (.tup xs) M
 | .tuple, [d] => match rdD M d with
   |some xs=>.ok (.tup xs) M
   |none=>.bad
 | .list m, [d] => match zcp M d with
   |some xs=>zb6 m xs M
   |none=>.bad
 |.listR m,[.int n]=>if n<2^20 then zb6 m ((List.range n.toNat).map fun (k:Nat)=>D.int (k:Int)) M else .bad
 | .all, [d] => match rdD M d with
   | some xs => match boolsOf xs with
     |some bs=>.ok (.bl (bs.all id)) M
     |none=>.bad
   |none=>.bad
 | .sum, [d] => match rdD M d with
   | some xs => match intsOf xs with
     |some is=>.ok (.int is.sum) M
     |none=>.bad
   |none=>.bad
 |_,_=>.bad
def zkj:List Nat->List D->Env->Option Env
 |[],[],Z=>some Z
 |i::l,d::ds,Z=>zkj l ds (Z.set i (some d))
 |_,_,_=>none
def zde (t:Tgt)(d:D)(Z:Env):Option Env:=match t,d with
 |.one i,d=>some (Z.set i (some d))
 |.tup l,.tup ds=>zkj l ds Z
 |.tup _,_=>none
abbrev Walk:=Mem->Option (List D)
def zdd:Nat->List D->List D
 |_,[]=>[]
 |k,d::r=>.tup [.int k,d]::zdd (k+1) r
def zif:List D->List D->List D
 |a::r,b::t=>.tup [a,b]::zif r t
 |_,_=>[]
def zip3L:List D->List D->List D->List D
 |a::r,b::t,c::q=>.tup [a,b,c]::zip3L r t q
 |_,_,_=>[]
def eachR {α:Type}(f:α->D->Mem->Res α):List D->α->Mem->Res α
 |[],a,M=>.ok a M
 |d::r,a,M=>(f a d M).bind (eachR f r)
def zey {α:Type}(f:α->D->Mem->Res α)(w:Walk):Nat->Nat->α->Mem->Res α
 |0,_,_,_=>.bad
 | n + 1, i, a, M => match w M with
   |none=>.bad
   | some ds => match ds[i]? with
     |none=>.ok a M
     |some d=>(f a d M).bind (zey f w n (i+1))
def zej {α:Type}(f:α->D->Mem->Res α)(w:Walk)(a:α)(M:Mem):Res α:=zey f w (((w M).getD []).length+1) 0 a M
def ofO {α:Type}(M:Mem):Option α->Res α
 |some a=>.ok a M
 |none=>.bad
@[simp] theorem z0r {α:Type}(M:Mem)(a:α):ofO M (some a)=.ok a M:=rfl
@[simp] theorem ofO_none {α:Type}(M:Mem):(ofO M none:Res α)=.bad:=rfl
inductive Fl where
 |next (Z:Env)
 |ret (d:D)
 |exc (x:D) (Z:Env)
end LD
namespace LD
open PySem PySem.Spec PyProof.Rows L2
structure Mu where
 pub:Nat->Option Addr
 priv:List Addr
def Mu.Mt (μ:Mu)(a:Addr):Prop:=(∃k,μ.pub k=some a)\/a∈μ.priv
abbrev Fa:=Nat->Option Addr
def KL (K:PySem.W.Frag)(a:Addr)(xs:List V):Prop:=
 ∃(o:Obj) (its:Array Value) (n:Nat),K.lookup a=some o/\o.cls=.type "list"/\o.dict=none/\o.data=.seq its n/\its.size<=sizeLine/\Vals xs its.toList
def XAt (C:Addr)(dx:Option Addr)(a:Addr)(h:Heap):Prop:=∃o vs,h.get? a=some o/\o.cls=.ref C/\o.dict=dx/\o.data=.fields vs/\1<vs.size
def zfc (c:Nat):Str:=if c=1 then "number" else "place"
def XNum (H:Hp)(c:Nat)(dx:Option Addr):Option Int->Prop
 |none=>dx=none
 |some i=>∃d,dx=some d/\H d=some (.xd [(zfc c,.int i)])
def cid (c:Nat):Nat:=1000+c
section
variable (fa:Fa)(K:PySem.W.Frag)(μ:Mu)(H:Hp)
mutual
def Rep:D->V->Prop
 |.non,v=>v=.non
 |.bl b,v=>v=.bl b
 |.int i,v=>v=.int i
 |.str x,v=>v=.str x
 |.tup ds,v=>∃a vs,v=.ref a/\SqT K H a vs/\za7 ds vs
 |.lst ds,v=>∃a vs,v=.ref a/\(H a=some (.lst vs)/\¬ μ.Mt a)/\za7 ds vs
 |.frz ds,v=>∃a vs,v=.ref a/\((∃ob,H a=some (.frz ob (.lst vs)))\/KL K a vs)/\za7 ds vs
 |.cell k,v=>∃a,v=.ref a/\μ.pub k=some a
 |.fn f,v=>∃a,v=.ref a/\fa f=some a
 |.exc c p,v=>∃a C dx,v=.ref a/\fa (cid c)=some C/\H a=some (.ext (XAt C dx a))/\XNum H c dx p
def za7:List D->List V->Prop
 |[],vs=>vs=[]
 |d::ds,vs=>∃v r,vs=v::r/\Rep d v/\za7 ds r
end
end
def IsX (o:HO):Prop:=(∃φ,o=.ext φ)\/∃fs,o=.xd fs
structure ExtW (μ:Mu) (H:Hp) (μ':Mu) (H':Hp):Prop where
 mu:∀k a,μ.pub k=some a->μ'.pub k=some a
 tups:∀a vs,Rd H a (.tup vs)->Rd H' a (.tup vs)
 lsts:∀a vs,H a=some (.lst vs)->¬ μ.Mt a->H' a=some (.lst vs)/\¬ μ'.Mt a
 frzs:∀a ob u,H a=some (.frz ob u)->H' a=some (.frz ob u)
 exts:∀a o,IsX o->H a=some o->H' a=some o
structure Ext (μ:Mu) (H:Hp) (μ':Mu) (H':Hp):Prop extends ExtW μ H μ' H' where
 pr:μ'.priv=μ.priv
 pk:∀a∈μ.priv,H' a=H a
theorem ExtW.refl {μ:Mu}{H:Hp}:ExtW μ H μ H:=⟨fun _ _ h=>h,fun _ _ h=>h,fun _ _ h n=>⟨h,n⟩,fun _ _ _ h=>h,fun _ _ _ h=>h⟩
theorem ExtW.trans {μ μ1 μ2:Mu}{H H1 H2:Hp}(a:ExtW μ H μ1 H1)(b:ExtW μ1 H1 μ2 H2):ExtW μ H μ2 H2:=
 ⟨fun k x h=>b.mu k x (a.mu k x h),fun x vs h=>b.tups x vs (a.tups x vs h),fun x vs h n=>b.lsts x vs (a.lsts x vs h n).1 (a.lsts x vs h n).2,fun x ob u h=>b.frzs x ob u (a.frzs x ob u h),fun x o i h=>b.exts x o i (a.exts x o i h)⟩
theorem Ext.refl {μ:Mu}{H:Hp}:Ext μ H μ H:=⟨.refl,rfl,fun _ _=>rfl⟩
theorem Ext.trans {μ μ1 μ2:Mu}{H H1 H2:Hp}(a:Ext μ H μ1 H1)(b:Ext μ1 H1 μ2 H2):Ext μ H μ2 H2:=
 ⟨a.toExtW.trans b.toExtW,b.pr.trans a.pr,fun x hx=>(b.pk x (by rw [a.pr];exact hx)).trans (a.pk x hx)⟩
section
variable {fa:Fa}{K:PySem.W.Frag}{μ μ':Mu}{H H':Hp}
theorem ExtW.sqT {a:Addr}{vs:List V}(x:ExtW μ H μ' H')(h:SqT K H a vs):SqT K H' a vs:=h.elim (fun z=>.inl (x.tups a vs z)) .inr
mutual
theorem Rep.extW (x:ExtW μ H μ' H'):∀{d:D}{v:V},Rep fa K μ H d v->Rep fa K μ' H' d v
 |.non,v,h=>h
 |.bl b,v,h=>h
 |.int i,v,h=>h
 |.str y,v,h=>h
 | .tup ds, v, h => by
   obtain ⟨a,vs,e,s,r⟩:=h
   exact ⟨a,vs,e,x.sqT s,za7.extW x r⟩
 | .lst ds, v, h => by
   obtain ⟨a,vs,e,s,r⟩:=h
   exact ⟨a,vs,e,x.lsts a vs s.1 s.2,za7.extW x r⟩
 | .frz ds, v, h => by
   obtain ⟨a,vs,e,s,r⟩:=h
   exact ⟨a,vs,e,s.elim (fun ⟨ob,z⟩=>.inl ⟨ob,x.frzs a ob _ z⟩) .inr,za7.extW x r⟩
 | .cell k, v, h => by
   obtain ⟨a,e,m⟩:=h
   exact ⟨a,e,x.mu k a m⟩
 |.fn f,v,h=>h
 | .exc c p, v, h => by
   obtain ⟨a,C,dx,e,f,g,n⟩:=h
   refine ⟨a,C,dx,e,f,x.exts _ _ (.inl ⟨_,rfl⟩) g,?_⟩
   cases p with
   |none=>exact n
   |some i=>exact let ⟨d,h1,h2⟩:=n;⟨d,h1,x.exts _ _ (.inr ⟨_,rfl⟩) h2⟩
theorem za7.extW (x:ExtW μ H μ' H'):∀{ds:List D}{vs:List V},za7 fa K μ H ds vs->za7 fa K μ' H' ds vs
 |[],vs,h=>h
 | d :: ds, vs, h => by
   obtain ⟨v,r,e,p,q⟩:=h
   exact ⟨v,r,e,Rep.extW x p,za7.extW x q⟩
end
theorem Rep.ext (x:Ext μ H μ' H'){d:D}{v:V}(h:Rep fa K μ H d v):Rep fa K μ' H' d v:=Rep.extW x.toExtW h
theorem za7.ext (x:Ext μ H μ' H'){d:List D}{v:List V}(h:za7 fa K μ H d v):za7 fa K μ' H' d v:=za7.extW x.toExtW h
theorem za7.length:∀{ds:List D}{vs:List V},za7 fa K μ H ds vs->vs.length=ds.length
 | [], vs, h => by
   have h:vs=[]:=h
   subst h;rfl
 | d :: ds, vs, h => by
   obtain ⟨v,r,e,p,q⟩:=h
   subst e
   simp [za7.length q]
theorem za7.get:∀{ds:List D}{vs:List V}{i:Nat}{d:D},za7 fa K μ H ds vs->ds[i]?=some d->∃v,vs[i]?=some v/\Rep fa K μ H d v
 |[],_,_,_,_,e=>by simp at e
 | d :: ds, vs, 0, d', h, e => by
   obtain ⟨v,r,rfl,p,q⟩:=h
   simp at e;subst e
   exact ⟨v,rfl,p⟩
 | d :: ds, vs, i + 1, d', h, e => by
   obtain ⟨v,r,rfl,p,q⟩:=h
   obtain ⟨u,h1,h2⟩:=za7.get (i:=i) q (by simpa using e)
   exact ⟨u,by simpa using h1,h2⟩
theorem za7.append:∀{ds es:List D}{vs ws:List V},za7 fa K μ H ds vs->za7 fa K μ H es ws->za7 fa K μ H (ds++es) (vs++ws)
 | [], _, vs, _, h, g => by
   have h:vs=[]:=h
   subst h;exact g
 | d :: ds, es, vs, ws, h, g => by
   obtain ⟨v,r,rfl,p,q⟩:=h
   exact ⟨v,r++ws,rfl,p,za7.append q g⟩
theorem za7.one {d:D}{v:V}(h:Rep fa K μ H d v):za7 fa K μ H [d] [v]:=⟨v,[],rfl,h,rfl⟩
theorem za7.drop:∀(n:Nat) {ds:List D}{vs:List V},za7 fa K μ H ds vs->za7 fa K μ H (ds.drop n) (vs.drop n)
 |0,_,_,h=>h
 | n + 1, [], vs, h => by
   have h:vs=[]:=h
   subst h;exact rfl
 | n + 1, d :: ds, vs, h => by
   obtain ⟨v,r,rfl,p,q⟩:=h
   exact za7.drop n q
theorem za7.take:∀(n:Nat) {ds:List D}{vs:List V},za7 fa K μ H ds vs->za7 fa K μ H (ds.take n) (vs.take n)
 |0,_,_,h=>rfl
 | n + 1, [], vs, h => by
   have h:vs=[]:=h
   subst h;exact rfl
 | n + 1, d :: ds, vs, h => by
   obtain ⟨v,r,rfl,p,q⟩:=h
   exact ⟨v,r.take n,rfl,p,za7.take n q⟩
theorem za7.set:∀(n:Nat) {ds:List D}{vs:List V}{d:D}{v:V},za7 fa K μ H ds vs->Rep fa K μ H d v->za7 fa K μ H (ds.set n d) (vs.set n v)
 | _, [], vs, _, _, h, _ => by
   have h:vs=[]:=h
   subst h;exact rfl
 | 0, d :: ds, vs, _, v', h, g => by
   obtain ⟨v,r,rfl,p,q⟩:=h
   exact ⟨v',r,rfl,g,q⟩
 | n + 1, d :: ds, vs, _, v', h, g => by
   obtain ⟨v,r,rfl,p,q⟩:=h
   exact ⟨v,r.set n v',rfl,p,za7.set n q g⟩
theorem za7.reverse:∀{ds:List D}{vs:List V},za7 fa K μ H ds vs->za7 fa K μ H ds.reverse vs.reverse
 | [], vs, h => by
   have h:vs=[]:=h
   subst h;exact rfl
 | d :: ds, vs, h => by
   obtain ⟨v,r,rfl,p,q⟩:=h
   rw [List.reverse_cons,List.reverse_cons]
   exact za7.append (za7.reverse q) (.one p)
theorem za7.rep:∀(n:Nat) {ds:List D}{vs:List V},za7 fa K μ H ds vs->za7 fa K μ H (List.replicate n ds).flatten (List.replicate n vs).flatten
 |0,_,_,_=>rfl
 | n + 1, ds, vs, h => by
   rw [List.replicate_succ,List.replicate_succ,List.flatten_cons,List.flatten_cons]
   exact h.append (za7.rep n h)
theorem za7.ints:∀(ns:List Int),za7 fa K μ H (ns.map D.int) (ns.map V.int)
 |[]=>rfl
 |n::ns=>⟨.int n,ns.map V.int,rfl,rfl,za7.ints ns⟩
end
structure RelM (fa:Fa) (K:PySem.W.Frag) (μ:Mu) (H:Hp) (M:Mem):Prop where
 at':∀(k:Nat) (ds:List D),M[k]?=some ds->∃a vs,μ.pub k=some a/\H a=some (.lst vs)/\za7 fa K μ H ds vs
 out:∀(k:Nat),M.length<=k->μ.pub k=none
 inj:∀j k a,μ.pub j=some a->μ.pub k=some a->j=k
 pv:∀a∈μ.priv,(∃vs,H a=some (.lst vs))/\∀k,μ.pub k≠some a
structure zbu (fa:Fa) (K:PySem.W.Frag) (μ:Mu) (H:Hp) (σ:L2.St) (Z:Env):Prop where
 len:σ.length=Z.length
 at':∀(i:Nat) (d:D),Z[i]?=some (some d)->∃v,σ[i]?=some (some v)/\Rep fa K μ H d v
section
variable {fa:Fa}{K:PySem.W.Frag}{μ μ':Mu}{H H':Hp}{σ:L2.St}{Z:Env}{M:Mem}
theorem zbu.ext (h:zbu fa K μ H σ Z)(x:Ext μ H μ' H'):zbu fa K μ' H' σ Z:=
 ⟨h.len,fun i d e=>let ⟨v,h1,h2⟩:=h.at' i d e;⟨v,h1,h2.ext x⟩⟩
theorem zbu.set (h:zbu fa K μ H σ Z){i:Nat}{d:D}{v:V}(r:Rep fa K μ H d v):zbu fa K μ H (σ.set i (some v)) (Z.set i (some d)):=by
 refine ⟨by simp [h.len],fun j d' e=>?_⟩
 by_cases hj:j=i
 ·subst hj
  have hl:j<Z.length:=by
   have:=(List.getElem?_eq_some_iff.mp e).1
   simpa using this
  rw [List.getElem?_set_self hl] at e
  cases e
  exact ⟨v,List.getElem?_set_self (by rw [h.len];exact hl),r⟩
 ·rw [List.getElem?_set_ne (Ne.symm hj)] at e
  obtain ⟨u,h1,h2⟩:=h.at' j d' e
  exact ⟨u,by rw [List.getElem?_set_ne (Ne.symm hj)];exact h1,h2⟩
theorem zbu.extW (h:zbu fa K μ H σ Z)(x:ExtW μ H μ' H'):zbu fa K μ' H' σ Z:=
 ⟨h.len,fun i d e=>let ⟨v,h1,h2⟩:=h.at' i d e;⟨v,h1,h2.extW x⟩⟩
theorem RelM.mu_lt (h:RelM fa K μ H M){k:Nat}{a:Addr}(e:μ.pub k=some a):∃ds vs,M[k]?=some ds/\H a=some (.lst vs)/\za7 fa K μ H ds vs:=by
 by_cases hk:k<M.length
 ·obtain ⟨a',vs,h1,h2,h3⟩:=h.at' k M[k] (by simp [hk])
  rw [e] at h1;cases h1
  exact ⟨_,vs,by simp [hk],h2,h3⟩
 ·rw [h.out k (by omega)] at e;cases e
theorem RelM.fresh (h:RelM fa K μ H M){p:Addr}(hp:H p=none):¬ μ.Mt p:=fun e=>by
 rcases e with ⟨k,e⟩|e
 ·obtain ⟨ds,vs,_,h2,_⟩:=h.mu_lt e
  rw [hp] at h2;cases h2
 ·obtain ⟨⟨vs,h2⟩,_⟩:=h.pv p e
  rw [hp] at h2;cases h2
theorem RelM.pne (h:RelM fa K μ H M){p a:Addr}(hp:H p=none)(ha:a∈μ.priv):a≠p:=fun e=>by
 obtain ⟨⟨vs,h2⟩,_⟩:=h.pv a ha
 rw [e,hp] at h2;cases h2
theorem Ext.alloc {p:Addr}{o:HO}(h:RelM fa K μ H M)(hp:H p=none):Ext μ H μ (upd H p o):=by
 have rd:∀a u,Rd H a u->Rd (upd H p o) a u:=fun a u h=>by
  rcases h with h|⟨ob,h⟩
  ·exact .inl (by rw [zaz (zbi h hp)];exact h)
  ·exact .inr ⟨ob,by rw [zaz (zbi h hp)];exact h⟩
 exact ⟨⟨fun _ _ h=>h,fun a vs h=>rd a _ h,fun a vs h n=>⟨by rw [zaz (zbi h hp)];exact h,n⟩,fun a ob u h=>by rw [zaz (zbi h hp)];exact h,fun a o _ h=>by rw [zaz (zbi h hp)];exact h⟩,rfl,fun a ha=>by rw [zaz (h.pne hp ha)]⟩
theorem RelM.alloc (h:RelM fa K μ H M){p:Addr}{o:HO}(hp:H p=none):RelM fa K μ (upd H p o) M:=
 ⟨fun k ds e=>let ⟨a,vs,h1,h2,h3⟩:=h.at' k ds e;⟨a,vs,h1,by rw [zaz (zbi h2 hp)];exact h2,h3.ext (Ext.alloc h hp)⟩,h.out,h.inj,fun a ha=>⟨let ⟨⟨vs,e⟩,_⟩:=h.pv a ha;⟨vs,by rw [zaz (h.pne hp ha)];exact e⟩,(h.pv a ha).2⟩⟩
def zf0 (μ:Mu)(n:Nat)(p:Addr):Mu:=⟨fun k=>if k=n then some p else μ.pub k,μ.priv⟩
theorem Ext.cell {p:Addr}{o:HO}(h:RelM fa K μ H M)(hp:H p=none):Ext μ H (zf0 μ M.length p) (upd H p o):=by
 have rd:∀a u,Rd H a u->Rd (upd H p o) a u:=fun a u h=>by
  rcases h with h|⟨ob,h⟩
  ·exact .inl (by rw [zaz (zbi h hp)];exact h)
  ·exact .inr ⟨ob,by rw [zaz (zbi h hp)];exact h⟩
 refine ⟨⟨fun k a e=>?_,fun a vs g=>rd a _ g,fun a vs g n=>⟨by rw [zaz (zbi g hp)];exact g,fun e=>?_⟩,fun a ob u h=>by rw [zaz (zbi h hp)];exact h,fun a o _ h=>by rw [zaz (zbi h hp)];exact h⟩,rfl,fun a ha=>by rw [zaz (h.pne hp ha)]⟩
 ·show (if k=M.length then some p else μ.pub k)=some a
  split
  ·next q=>rw [q,h.out _ (tqg _)] at e;cases e
  ·exact e
 ·rcases e with ⟨k,e⟩|e
  ·have e:(if k=M.length then some p else μ.pub k)=some a:=e
   split at e
   ·cases e;exact zbi g hp rfl
   ·exact n (.inl ⟨k,e⟩)
  ·exact n (.inr e)
theorem RelM.cell (h:RelM fa K μ H M){p:Addr}{ds:List D}{vs:List V}(hp:H p=none)(r:za7 fa K μ H ds vs) :
 RelM fa K (zf0 μ M.length p) (upd H p (.lst vs)) (M++[ds]):=by
 have x:Ext μ H (zf0 μ M.length p) (upd H p (.lst vs)):=Ext.cell h hp
 have np:=h.fresh hp
 refine ⟨fun k ds' e=>?_,fun k hk=>?_,fun j k a h1 h2=>?_,fun a ha=>?_⟩
 ·by_cases hk:k<M.length
  ·rw [List.getElem?_append_left hk] at e
   obtain ⟨a,ws,h1,h2,h3⟩:=h.at' k ds' e
   exact ⟨a,ws,x.mu k a h1,by rw [zaz (zbi h2 hp)];exact h2,h3.ext x⟩
  ·have hk':k=M.length:=by
    have:=(List.getElem?_eq_some_iff.mp e).1
    simp at this;omega
   subst hk'
   rw [List.getElem?_append_right (tqg _)] at e
   simp at e
   subst e
   exact ⟨p,vs,by simp [zf0],zcf,r.ext x⟩
 ·simp at hk
  show (if k=M.length then some p else μ.pub k)=none
  rw [if_neg (by omega)]
  exact h.out k (by omega)
 ·have h1:(if j=M.length then some p else μ.pub j)=some a:=h1
  have h2:(if k=M.length then some p else μ.pub k)=some a:=h2
  split at h1<;>split at h2
  ·omega
  ·cases h1;exact absurd (.inl ⟨k,h2⟩) np
  ·cases h2;exact absurd (.inl ⟨j,h1⟩) np
  ·exact h.inj j k a h1 h2
 ·obtain ⟨⟨ws,e⟩,n⟩:=h.pv a ha
  refine ⟨⟨ws,by rw [zaz (h.pne hp ha)];exact e⟩,fun k e2=>?_⟩
  have e2:(if k=M.length then some p else μ.pub k)=some a:=e2
  split at e2
  ·cases e2;exact h.pne hp ha rfl
  ·exact n k e2
theorem ExtW.write {a:Addr}{vs ws:List V}(h2:H a=some (.lst vs))(e:μ.Mt a):ExtW μ H μ (upd H a (.lst ws)):=by
 have ne:∀b u,Rd H b u->(∀xs,u≠.lst xs)->b≠a:=fun b u g nu q=>by
  subst q
  rcases g with g|⟨ob,g⟩
  ·rw [h2] at g;cases g;exact nu _ rfl
  ·rw [h2] at g;cases g
 have rd:∀b u,b≠a->Rd H b u->Rd (upd H a (.lst ws)) b u:=fun b u nb g=>by
  rcases g with g|⟨ob,g⟩
  ·exact .inl (by rw [zaz nb];exact g)
  ·exact .inr ⟨ob,by rw [zaz nb];exact g⟩
 exact ⟨fun _ _ q=>q,fun b us g=>rd b _ (ne b _ g (fun xs q=>by cases q)) g,fun b us g n=>⟨by rw [zaz (fun q=>n (by rw [q];exact e))];exact g,n⟩,fun b ob u g=>by rw [zaz (fun q=>by rw [q,h2] at g;cases g)];exact g,fun b o i g=>by rw [zaz (fun q=>by rw [q,h2] at g;cases g;rcases i with ⟨_,i⟩|⟨_,i⟩<;>cases i)];exact g⟩
theorem Ext.write {k:Nat}{a:Addr}{vs ws:List V}(h:RelM fa K μ H M)(e:μ.pub k=some a):Ext μ H μ (upd H a (.lst ws)):=by
 obtain ⟨ds,vs,_,h2,_⟩:=h.mu_lt e
 exact ⟨ExtW.write h2 (.inl ⟨k,e⟩),rfl,fun b hb=>by rw [zaz (fun q=>(h.pv b hb).2 k (by rw [q];exact e))]⟩
theorem RelM.write (h:RelM fa K μ H M){k:Nat}{a:Addr}{ds:List D}{ws:List V}(e:μ.pub k=some a)(r:za7 fa K μ H ds ws):RelM fa K μ (upd H a (.lst ws)) (M.set k ds):=by
 have x:Ext μ H μ (upd H a (.lst ws)):=Ext.write (vs:=ws) h e
 refine ⟨fun j es q=>?_,fun j hj=>h.out j (by simpa using hj),h.inj,fun b hb=>⟨let ⟨⟨vs,g⟩,_⟩:=h.pv b hb;⟨vs,by rw [x.pk b hb];exact g⟩,(h.pv b hb).2⟩⟩
 by_cases hj:j=k
 ·subst hj
  have hl:j<M.length:=by have:=(List.getElem?_eq_some_iff.mp q).1;simpa using this
  rw [List.getElem?_set_self hl] at q
  cases q
  exact ⟨a,ws,e,zcf,r.ext x⟩
 ·rw [List.getElem?_set_ne (Ne.symm hj)] at q
  obtain ⟨b,vs,h1,h2,h3⟩:=h.at' j es q
  have nb:b≠a:=fun z=>hj (h.inj j k a (z ▸ h1) e)
  exact ⟨b,vs,h1,by rw [zaz nb];exact h2,h3.ext x⟩
end
def okE {α:Type}(r:Res α)(k:α->Mem->Prop):Prop:=match r with
 |.ok a M=>k a M
 |_=>False
theorem zbg {α β:Type}{r:Res α}{f:α->Mem->Res β}{k:β->Mem->Prop}(h:okE (r.bind f) k):∃a M,r=.ok a M/\okE (f a M) k:=by
 cases r with
 |ok a M=>exact ⟨a,M,rfl,h⟩
 |err=>exact h.elim
 |bad=>exact h.elim
theorem zml {α:Type}{M:Mem}{o:Option α}{k:α->Mem->Prop}(h:okE (ofO M o) k):∃a,o=some a/\k a M:=by
 cases o with
 |none=>exact h.elim
 |some a=>exact ⟨a,rfl,h⟩
theorem zbo {α:Type}{r:Res α}{k k':α->Mem->Prop}(h:okE r k)(m:∀a M,k a M->k' a M):okE r k':=by
 cases r with
 |ok a M=>exact m a M h
 |err=>exact h
 |bad=>exact h
section
variable (fa:Fa)(K:PySem.W.Frag)
def zbs (μ:Mu)(H:Hp)(Q:VK)(d:D)(M':Mem):Prop:=∀v H' μ',Ext μ H μ' H'->RelM fa K μ' H' M'->Rep fa K μ' H' d v->Q v H'
def tE (g:Env->Mem->Res D):TE:=fun σ H Q=>∃μ Z M,zbu fa K μ H σ Z/\RelM fa K μ H M/\okE (g Z M) (zbs fa K μ H Q)
def tT (g:Env->Mem->Res Bool):TT:=fun σ H Q=>∃μ Z M,zbu fa K μ H σ Z/\RelM fa K μ H M/\okE (g Z M) fun b M'=>∀H' μ',Ext μ H μ' H'->RelM fa K μ' H' M'->Q b H'
def tA (g:Env->Mem->Res (List D)):TA:=fun σ H Q=>∃μ Z M,zbu fa K μ H σ Z/\RelM fa K μ H M/\okE (g Z M) fun ds M'=>∀vs H' μ',Ext μ H μ' H'->RelM fa K μ' H' M'->za7 fa K μ' H' ds vs->Q vs H'
end
def Fly (New:Addr->Prop)(C:Addr)(dx:Option Addr)(a:Addr)(h:Heap)(H:Hp):Prop:=New a/\H a=none/\∃o vs,h.get? a=some o/\o.cls=.ref C/\o.dict=dx/\o.data=.fields vs/\
 (vs[1]?=some .none\/∃T oT ts,vs[1]?=some (.ref T)/\T≠a/\New T/\H T=none/\h.get? T=some oT/\oT.data=.fields ts/\ts[3]?=some .none)
def zme (X:Cx)(b:Addr):Prop:=X.s₀.heap.get? b=none/\∀p∈X.pn,p.1≠b
def XW (fa:Fa)(X:Cx)(μ:Mu)(H:Hp)(x:D)(Z:Env)(M:Mem):Prop:=∀pins σ' H' μ' s' a C dx c p,Inv X pins σ' H' s'->Ext μ H μ' H'->zbu fa X.K μ' H' σ' Z->RelM fa X.K μ' H' M->x=.exc c p->fa (cid c)=some C->XNum H' c dx p->Fly (zme X) C dx a s'.heap H'->X.xe (.ref a) s'
def FlP (fa:Fa)(X:Cx)(μ:Mu)(H:Hp)(D:Ends):Fl->Mem->Prop
 |.next ρ',M'=>∀σ' H' μ',Ext μ H μ' H'->zbu fa X.K μ' H' σ' ρ'->RelM fa X.K μ' H' M'->D.nx σ' H'
 |.ret d,M'=>zbs fa X.K μ H D.rt d M'
 |.exc x ρ',M'=>XW fa X μ H x ρ' M'
def tF (fa:Fa)(X:Cx)(g:Env->Mem->Res Fl):TS:=fun D σ H=>∃μ Z M,zbu fa X.K μ H σ Z/\RelM fa X.K μ H M/\okE (g Z M) (FlP fa X μ H D)
theorem XW.ext {fa:Fa}{X:Cx}{μ μ':Mu}{H H':Hp}{x:D}{Z:Env}{M:Mem}(h:XW fa X μ H x Z M)(y:Ext μ H μ' H'):XW fa X μ' H' x Z M:=fun pins σ1 H1 μ1 s1 a C dx c p I e=>h pins σ1 H1 μ1 s1 a C dx c p I (y.trans e)
section
variable {fa:Fa}{K:PySem.W.Frag}{μ μ':Mu}{H H':Hp}{Q:VK}
theorem zbs.ext {d:D}{M:Mem}(h:zbs fa K μ H Q d M)(x:Ext μ H μ' H'):zbs fa K μ' H' Q d M:=fun v H'' μ'' y m r=>h v H'' μ'' (x.trans y) m r
theorem okW {r:Res D}(h:okE r (zbs fa K μ H Q))(x:Ext μ H μ' H'):okE r (zbs fa K μ' H' Q):=zbo h fun _ _ w=>w.ext x
end
theorem zch {X:Cx}{e:Expr}{t t':TE}(h:PE X e t)(i:∀σ H Q,t' σ H Q->t σ H Q):PE X e t':=fun pins s σ H Q I q=>h pins s σ H Q I (i σ H Q q)
theorem zl2 {X:Cx}{e:Expr}{t t':TT}(h:PT X e t)(i:∀σ H Q,t' σ H Q->t σ H Q):PT X e t':=fun pins s σ H Q I q=>h pins s σ H Q I (i σ H Q q)
theorem zxv {X:Cx}{e:Expr}{t t':TT}(h:PW X e t)(i:∀σ H Q,t' σ H Q->t σ H Q):PW X e t':=fun w pins s σ H Q I q=>h w pins s σ H Q I (i σ H Q q)
theorem zx3 {X:Cx}{e:List Expr}{t t':TA}(h:PA X e t)(i:∀σ H Q,t' σ H Q->t σ H Q):PA X e t':=fun pos pins s σ H Q I q=>h pos pins s σ H Q I (i σ H Q q)
theorem zg7 {X:Cx}{e:Stmt}{t t':TS}(h:PS X e t)(i:∀D σ H,t' D σ H->t D σ H):PS X e t':=fun pins s σ H D I q=>h pins s σ H D I (i D σ H q)
theorem zuw {X:Cx}{e:List Stmt}{t t':TS}(h:PSs X e t)(i:∀D σ H,t' D σ H->t D σ H):PSs X e t':=fun pins s σ H D I q=>h pins s σ H D I (i D σ H q)
section
variable {fa:Fa}{K:PySem.W.Frag}{μ:Mu}{H:Hp}{σ:L2.St}{Z:Env}{M:Mem}
theorem t1 {g:Env->Mem->Res D}{β:Type}{f:D->Mem->Res β}{P:β->Mem->Prop}{R:V->Hp->Prop}(hE:zbu fa K μ H σ Z)(hM:RelM fa K μ H M)(h:okE ((g Z M).bind f) P)
 (k:∀x M1 v H1 μ1,Ext μ H μ1 H1->zbu fa K μ1 H1 σ Z->RelM fa K μ1 H1 M1->Rep fa K μ1 H1 x v->okE (f x M1) P->R v H1):tE fa K g σ H R:=by
 obtain ⟨x,M1,e,q⟩:=zbg h
 refine ⟨μ,Z,M,hE,hM,?_⟩
 rw [e]
 exact fun v H1 μ1 x1 m1 r1=>k x M1 v H1 μ1 x1 (hE.ext x1) m1 r1 q
theorem tT1 {g:Env->Mem->Res Bool}{β:Type}{f:Bool->Mem->Res β}{P:β->Mem->Prop}{R:Bool->Hp->Prop}(hE:zbu fa K μ H σ Z)(hM:RelM fa K μ H M)(h:okE ((g Z M).bind f) P)
 (k:∀b M1 H1 μ1,Ext μ H μ1 H1->zbu fa K μ1 H1 σ Z->RelM fa K μ1 H1 M1->okE (f b M1) P->R b H1):tT fa K g σ H R:=by
 obtain ⟨b,M1,e,q⟩:=zbg h
 refine ⟨μ,Z,M,hE,hM,?_⟩
 rw [e]
 exact fun H1 μ1 x1 m1=>k b M1 H1 μ1 x1 (hE.ext x1) m1 q
theorem tA1 {g:Env->Mem->Res (List D)}{β:Type}{f:List D->Mem->Res β}{P:β->Mem->Prop}{R:List V->Hp->Prop}(hE:zbu fa K μ H σ Z)(hM:RelM fa K μ H M)(h:okE ((g Z M).bind f) P)
 (k:∀ds M1 vs H1 μ1,Ext μ H μ1 H1->zbu fa K μ1 H1 σ Z->RelM fa K μ1 H1 M1->za7 fa K μ1 H1 ds vs->okE (f ds M1) P->R vs H1):tA fa K g σ H R:=by
 obtain ⟨ds,M1,e,q⟩:=zbg h
 refine ⟨μ,Z,M,hE,hM,?_⟩
 rw [e]
 exact fun v H1 μ1 x1 m1 r1=>k ds M1 v H1 μ1 x1 (hE.ext x1) m1 r1 q
end
end LD
namespace LD
open PySem PySem.Spec PyProof.Rows L2
mutual
def toPy:D->PyData
 |.non=>.none
 |.bl b=>.bool b
 |.int i=>.int i
 |.str x=>.str x
 |.tup ds=>.tuple (zb5 ds)
 |.lst ds=>.list (zb5 ds)
 |.frz _=>.none
 |.cell _=>.none
 |.fn _=>.none
 |.exc _ _=>.none
def zb5:List D->List PyData
 |[]=>[]
 |d::r=>toPy d::zb5 r
end
theorem zmg:∀(n:Nat) (d:D),zas n d=true->(toPy d).canLay0=true/\(toPy d).depth<=n:=by
 have all:∀(n:Nat),(∀d,zas n d=true->(toPy d).canLay0=true/\(toPy d).depth<=n)->∀ds:List D,ds.all (zas n)=true->PyData.canLayAll0 (zb5 ds)=true/\PyData.depthAll (zb5 ds)<=n:=by
  intro n h ds
  induction ds with
  |nil=>intro _;simp [zb5,PyData.canLayAll0,PyData.depthAll]
  | cons d r ih =>
    intro q
    simp only [List.all_cons,Bool.and_eq_true] at q
    obtain ⟨h1,h2⟩:=h d q.1
    obtain ⟨h3,h4⟩:=ih q.2
    simp only [zb5,PyData.canLayAll0,PyData.depthAll,h1,h3,Bool.and_self,true_and]
    omega
 intro n
 induction n with
 | zero =>
   intro d h
   cases d with
   |str x=>exact ⟨by simpa [toPy,PyData.canLay0,PyData.strOk,zas] using h,by simp [toPy,PyData.depth]⟩
   |tup _=>simp [zas] at h
   |lst _=>simp [zas] at h
   |frz _=>simp [zas] at h
   |cell _=>simp [zas] at h
   |fn _=>simp [zas] at h
   |exc y p=>simp [zas] at h
   |_=>exact ⟨by simp [toPy,PyData.canLay0],by simp [toPy,PyData.depth]⟩
 | succ n ih =>
   intro d h
   cases d with
   |str x=>exact ⟨by simpa [toPy,PyData.canLay0,PyData.strOk,zas] using h,by simp [toPy,PyData.depth]⟩
   | tup ds =>
     obtain ⟨h1,h2⟩:=all n ih ds (by simpa [zas] using h)
     simp only [toPy,PyData.canLay0,PyData.depth,h1,true_and]
     omega
   | lst ds =>
     obtain ⟨h1,h2⟩:=all n ih ds (by simpa [zas] using h)
     simp only [toPy,PyData.canLay0,PyData.depth,h1,true_and]
     omega
   |frz _=>simp [zas] at h
   |cell _=>simp [zas] at h
   |fn _=>simp [zas] at h
   |exc y p=>simp [zas] at h
   |_=>exact ⟨by simp [toPy,PyData.canLay0],by simp [toPy,PyData.depth]⟩
theorem zjv {d:D}(h:zas 64 d=true):SeqAt.shaped (toPy d)=true:=by
 obtain ⟨h1,h2⟩:=zmg 64 d h
 simp [SeqAt.shaped,h1,h2]
mutual
theorem zms:∀(n m:Nat) (a b:D),zas n a=true->zas m b=true->PyData.eqv (toPy a) (toPy b)=zbr a b
 | n, m, .tup a, .tup b, ha, hb => by
   cases n with
   |zero=>simp [zas] at ha
   | succ n =>
     cases m with
     |zero=>simp [zas] at hb
     | succ m =>
       simp only [toPy,PyData.eqv,zbr]
       exact zns n m a b (by simpa [zas] using ha) (by simpa [zas] using hb)
 | n, m, .lst a, .lst b, ha, hb => by
   cases n with
   |zero=>simp [zas] at ha
   | succ n =>
     cases m with
     |zero=>simp [zas] at hb
     | succ m =>
       simp only [toPy,PyData.eqv,zbr]
       exact zns n m a b (by simpa [zas] using ha) (by simpa [zas] using hb)
 |n,m,.frz _,_,ha,hb=>by cases n<;>simp [zas] at ha
 |n,m,.cell _,_,ha,hb=>by cases n<;>simp [zas] at ha
 |n,m,.fn _,_,ha,hb=>by cases n<;>simp [zas] at ha
 |n,m,.exc _ _,_,ha,hb=>by cases n<;>simp [zas] at ha
 |n,m,_,.frz _,ha,hb=>by cases m<;>simp [zas] at hb
 |n,m,_,.cell _,ha,hb=>by cases m<;>simp [zas] at hb
 |n,m,_,.fn _,ha,hb=>by cases m<;>simp [zas] at hb
 |n,m,_,.exc _ _,ha,hb=>by cases m<;>simp [zas] at hb
 |_,_,.non,.non,_,_=>by simp [toPy,PyData.eqv,zbr]
 |_,_,.non,.bl _,_,_=>by simp [toPy,PyData.eqv,zbr]
 |_,_,.non,.int _,_,_=>by simp [toPy,PyData.eqv,zbr]
 |_,_,.non,.str _,_,_=>by simp [toPy,PyData.eqv,zbr]
 |_,_,.non,.tup _,_,_=>by simp [toPy,PyData.eqv,zbr]
 |_,_,.non,.lst _,_,_=>by simp [toPy,PyData.eqv,zbr]
 |_,_,.bl _,.non,_,_=>by simp [toPy,PyData.eqv,zbr]
 |_,_,.bl _,.bl _,_,_=>by simp [toPy,PyData.eqv,zbr]
 |_,_,.bl _,.int _,_,_=>by simp [toPy,PyData.eqv,zbr]
 |_,_,.bl _,.str _,_,_=>by simp [toPy,PyData.eqv,zbr]
 |_,_,.bl _,.tup _,_,_=>by simp [toPy,PyData.eqv,zbr]
 |_,_,.bl _,.lst _,_,_=>by simp [toPy,PyData.eqv,zbr]
 |_,_,.int _,.non,_,_=>by simp [toPy,PyData.eqv,zbr]
 |_,_,.int _,.bl _,_,_=>by simp [toPy,PyData.eqv,zbr]
 |_,_,.int _,.int _,_,_=>by simp [toPy,PyData.eqv,zbr]
 |_,_,.int _,.str _,_,_=>by simp [toPy,PyData.eqv,zbr]
 |_,_,.int _,.tup _,_,_=>by simp [toPy,PyData.eqv,zbr]
 |_,_,.int _,.lst _,_,_=>by simp [toPy,PyData.eqv,zbr]
 |_,_,.str _,.non,_,_=>by simp [toPy,PyData.eqv,zbr]
 |_,_,.str _,.bl _,_,_=>by simp [toPy,PyData.eqv,zbr]
 |_,_,.str _,.int _,_,_=>by simp [toPy,PyData.eqv,zbr]
 |_,_,.str _,.str _,_,_=>by simp [toPy,PyData.eqv,zbr]
 |_,_,.str _,.tup _,_,_=>by simp [toPy,PyData.eqv,zbr]
 |_,_,.str _,.lst _,_,_=>by simp [toPy,PyData.eqv,zbr]
 |_,_,.tup _,.non,_,_=>by simp [toPy,PyData.eqv,zbr]
 |_,_,.tup _,.bl _,_,_=>by simp [toPy,PyData.eqv,zbr]
 |_,_,.tup _,.int _,_,_=>by simp [toPy,PyData.eqv,zbr]
 |_,_,.tup _,.str _,_,_=>by simp [toPy,PyData.eqv,zbr]
 |_,_,.tup _,.lst _,_,_=>by simp [toPy,PyData.eqv,zbr]
 |_,_,.lst _,.non,_,_=>by simp [toPy,PyData.eqv,zbr]
 |_,_,.lst _,.bl _,_,_=>by simp [toPy,PyData.eqv,zbr]
 |_,_,.lst _,.int _,_,_=>by simp [toPy,PyData.eqv,zbr]
 |_,_,.lst _,.str _,_,_=>by simp [toPy,PyData.eqv,zbr]
 |_,_,.lst _,.tup _,_,_=>by simp [toPy,PyData.eqv,zbr]
theorem zns:∀(n m:Nat) (a b:List D),a.all (zas n)=true->b.all (zas m)=true->PyData.eqvAll (zb5 a) (zb5 b)=zmc a b
 |n,m,[],[],_,_=>by simp [zb5,PyData.eqvAll,zmc]
 |n,m,[],_::_,_,_=>by simp [zb5,PyData.eqvAll,zmc]
 |n,m,_::_,[],_,_=>by simp [zb5,PyData.eqvAll,zmc]
 | n, m, x :: a, y :: b, ha, hb => by
   simp only [List.all_cons,Bool.and_eq_true] at ha hb
   simp only [zb5,PyData.eqvAll,zmc]
   rw [zms n m x y ha.1 hb.1,zns n m a b ha.2 hb.2]
end
section
variable {fa:Fa}{X:Cx}{μ:Mu}{H:Hp}{σ:L2.St}{pins:List (Addr×Obj)}{s:Shared}{M:Mem}
theorem zjg {d:D}{v:V}{ds:List D}(hM:RelM fa X.K μ H M)(h:Rep fa X.K μ H d v)(e:zjk M d=some ds):∃a vs,v=.ref a/\H a=some (.lst vs)/\za7 fa X.K μ H ds vs:=by
 cases d with
 | lst xs =>
   cases e
   obtain ⟨a,vs,e,s,r⟩:=h
   exact ⟨a,vs,e,s.1,r⟩
 | cell k =>
   obtain ⟨a,rfl,hk⟩:=h
   obtain ⟨b,vs,h1,h2,h3⟩:=hM.at' k ds e
   rw [hk] at h1;cases h1
   exact ⟨a,vs,rfl,h2,h3⟩
 |_=>cases e
theorem zcd {d:D}{v:V}{ds:List D}(hM:RelM fa X.K μ H M)(h:Rep fa X.K μ H d v)(e:rdD M d=some ds):∃a vs,v=.ref a/\SqL X.K H a vs/\za7 fa X.K μ H ds vs:=by
 cases d with
 | lst xs =>
   obtain ⟨a,vs,h1,h2,h3⟩:=zjg (ds:=ds) hM h e
   exact ⟨a,vs,h1,.of h2,h3⟩
 | frz xs =>
   cases e
   obtain ⟨a,vs,e,s,r⟩:=h
   exact ⟨a,vs,e,s.elim (fun z=>.inl (.inr z)) .inr,r⟩
 | cell k =>
   obtain ⟨a,vs,h1,h2,h3⟩:=zjg (ds:=ds) hM h e
   exact ⟨a,vs,h1,.of h2,h3⟩
 |_=>cases e
theorem zjf {d:D}{v:V}{ds:List D}(hM:RelM fa X.K μ H M)(h:Rep fa X.K μ H d v)(e:zcp M d=some ds):∃a vs,v=.ref a/\(SqL X.K H a vs\/SqT X.K H a vs)/\za7 fa X.K μ H ds vs:=by
 cases d with
 | tup xs =>
   cases e
   obtain ⟨a,vs,rfl,h1,h2⟩:=h
   exact ⟨a,vs,rfl,.inr h1,h2⟩
 | lst xs =>
   obtain ⟨a,vs,h1,h2,h3⟩:=zcd (ds:=ds) hM h e
   exact ⟨a,vs,h1,.inl h2,h3⟩
 | frz xs =>
   obtain ⟨a,vs,h1,h2,h3⟩:=zcd (ds:=ds) hM h e
   exact ⟨a,vs,h1,.inl h2,h3⟩
 | cell k =>
   obtain ⟨a,vs,h1,h2,h3⟩:=zcd (ds:=ds) hM h e
   exact ⟨a,vs,h1,.inl h2,h3⟩
 |_=>cases e
mutual
theorem zd8 (I:Inv X pins σ H s):∀(d:D) (n:Nat) (v:V) (u:Value),zas n d=true->Rep fa X.K μ H d v->RelV v u->∃as,Reads s.heap u (toPy d) as
 | .non, n, v, u, _, h, r => by
   obtain rfl:v=.non:=h
   obtain rfl:u=Value.none:=r
   exact ⟨_,.none⟩
 | .bl b, n, v, u, _, h, r => by
   obtain rfl:v=.bl b:=h
   obtain rfl:u=Value.bool b:=r
   exact ⟨_,.bool b⟩
 | .int i, n, v, u, _, h, r => by
   obtain rfl:v=.int i:=h
   obtain ⟨t,rfl⟩:=r
   exact ⟨_,.int i t⟩
 | .str x, n, v, u, _, h, r => by
   obtain rfl:v=.str x:=h
   obtain ⟨t,rfl⟩:=r
   exact ⟨_,.str x t⟩
 | .tup ds, n, v, u, hp, h, r => by
   cases n with
   |zero=>simp [zas] at hp
   | succ n =>
     obtain ⟨a,vs,rfl,h1,h2⟩:=h
     obtain rfl:u=Value.ref a:=r
     obtain ⟨its,rv,⟨o,e1,e2,k,e3⟩,_⟩:=I.tuple h1
     obtain ⟨as,q⟩:=zfz I ds n vs its (by simpa [zas] using hp) h2 rv
     exact ⟨_,.tuple e1 e2 e3 (by simpa using q)⟩
 | .lst ds, n, v, u, hp, h, r => by
   cases n with
   |zero=>simp [zas] at hp
   | succ n =>
     obtain ⟨a,vs,rfl,h1,h2⟩:=h
     obtain rfl:u=Value.ref a:=r
     obtain ⟨its,rv,⟨o,k,e1,e2,e4,e3⟩,_⟩:=I.list (SqL.of h1.1)
     obtain ⟨as,q⟩:=zfz I ds n vs its (by simpa [zas] using hp) h2 rv
     exact ⟨_,.list e1 e2 e3 (by simpa using q)⟩
 |.frz k,n,v,u,hp,_,_=>by cases n<;>simp [zas] at hp
 |.cell k,n,v,u,hp,_,_=>by cases n<;>simp [zas] at hp
 |.fn f,n,v,u,hp,_,_=>by cases n<;>simp [zas] at hp
 |.exc _ _,n,v,u,hp,_,_=>by cases n<;>simp [zas] at hp
theorem zfz (I:Inv X pins σ H s):∀(ds:List D) (n:Nat) (vs:List V) (us:List Value),ds.all (zas n)=true->za7 fa X.K μ H ds vs->Vals vs us->∃as,ReadsAll s.heap us (zb5 ds) as
 | [], n, vs, us, _, h, r => by
   obtain rfl:vs=[]:=h
   cases r
   exact ⟨_,.nil⟩
 | d :: ds, n, vs, us, hp, h, r => by
   obtain ⟨v,vr,rfl,h1,h2⟩:=h
   simp only [List.all_cons,Bool.and_eq_true] at hp
   cases r with
   | cons r1 r2 =>
     obtain ⟨as,q1⟩:=zd8 I d n v _ hp.1 h1 r1
     obtain ⟨bs,q2⟩:=zfz I ds n vr _ hp.2 h2 r2
     exact ⟨_,.cons q1 q2⟩
end
theorem z29 {d:D}{n:Nat}(h:zas n (view M d)=true):(view M d=d/\zas n d=true)\/∃ds,rdD M d=some ds/\view M d=.lst ds:=by
 cases d with
 | cell k =>
   cases e:M[k]? with
   | none =>
     have ev:view M (.cell k)=.cell k:=by simp [view,e]
     rw [ev] at h
     cases n<;>simp [zas] at h
   |some ds=>exact .inr ⟨ds,e,by simp [view,e]⟩
 |frz ds=>exact .inr ⟨ds,rfl,rfl⟩
 |_=>exact .inl ⟨rfl,h⟩
theorem zkz (I:Inv X pins σ H s)(hM:RelM fa X.K μ H M){d:D}{v:V}{u:Value}(hp:zas 64 (view M d)=true)(h:Rep fa X.K μ H d v)(r:RelV v u):∃as,Reads s.heap u (toPy (view M d)) as:=by
 rcases z29 hp with ⟨e,hp'⟩|⟨ds,e,ev⟩
 ·rw [e];exact zd8 I _ 64 v u hp' h r
 ·rw [ev] at hp ⊢
  obtain ⟨a,vs,rfl,h1,h2⟩:=zcd (ds:=ds) hM h e
  obtain rfl:u=Value.ref a:=r
  obtain ⟨its,rv,⟨o,k,e1,e2,e4,e3⟩,_⟩:=I.list h1
  obtain ⟨as,q⟩:=zfz I ds 63 vs its (by simpa [zas] using hp) h2 rv
  exact ⟨_,.list e1 e2 e3 (by simpa using q)⟩
theorem zhx (I:Inv X pins σ H s)(hM:RelM fa X.K μ H M):∀(n m:Nat) (d:D) (v:V) (u:Value),zas m (zcw n M d)=true->Rep fa X.K μ H d v->RelV v u->∃as,Reads s.heap u (toPy (zcw n M d)) as
 |0,m,d,v,u,hp,h,r=>zd8 I d m v u hp h r
 | n + 1, m, d, v, u, hp, h, r => by
   have ih:=zhx I hM n
   have all:∀(m:Nat) (ds:List D) (vs:List V) (us:List Value),(ds.map (zcw n M)).all (zas m)=true->za7 fa X.K μ H ds vs->Vals vs us->∃as,ReadsAll s.heap us (zb5 (ds.map (zcw n M))) as:=by
    intro m ds
    induction ds with
    | nil =>
      intro vs us _ h r
      obtain rfl:vs=[]:=h
      cases r
      exact ⟨_,.nil⟩
    | cons d ds ihl =>
      intro vs us hp h r
      obtain ⟨v,vr,rfl,h1,h2⟩:=h
      simp only [List.map_cons,List.all_cons,Bool.and_eq_true] at hp
      cases r with
      | cons r1 r2 =>
        obtain ⟨as,q1⟩:=ih m d v _ hp.1 h1 r1
        obtain ⟨bs,q2⟩:=ihl vr _ hp.2 h2 r2
        exact ⟨_,.cons q1 q2⟩
   have lst:∀(ds:List D) (a:Addr) (vs:List V),zas m (.lst (ds.map (zcw n M)))=true->SqL X.K H a vs->za7 fa X.K μ H ds vs->u=.ref a->∃as,Reads s.heap u (toPy (.lst (ds.map (zcw n M)))) as:=by
    intro ds a vs hp h1 h2 e
    subst e
    cases m with
    |zero=>simp [zas] at hp
    | succ m =>
      obtain ⟨its,rv,⟨o,k,e1,e2,e4,e3⟩,_⟩:=I.list h1
      obtain ⟨as,q⟩:=all m ds vs its (by simpa [zas] using hp) h2 rv
      exact ⟨_,.list e1 e2 e3 (by simpa using q)⟩
   cases d with
   | cell k =>
     cases e:M[k]? with
     | none =>
       have ev:zcw (n+1) M (.cell k)=.cell k:=by simp [zcw,e]
       rw [ev] at hp
       cases m<;>simp [zas] at hp
     | some ds =>
       have ev:zcw (n+1) M (.cell k)=.lst (ds.map (zcw n M)):=by simp [zcw,e]
       rw [ev] at hp ⊢
       obtain ⟨a,vs,rfl,h1,h2⟩:=zcd (ds:=ds) hM h e
       exact lst ds a vs hp h1 h2 r
   | frz ds =>
     obtain ⟨a,vs,rfl,h1,h2⟩:=zcd (ds:=ds) hM h rfl
     exact lst ds a vs hp h1 h2 r
   | lst ds =>
     obtain ⟨a,vs,rfl,h1,h2⟩:=zcd (ds:=ds) hM h rfl
     exact lst ds a vs hp h1 h2 r
   | tup ds =>
     have hp:zas m (.tup (ds.map (zcw n M)))=true:=hp
     cases m with
     |zero=>simp [zas] at hp
     | succ m =>
       obtain ⟨a,vs,rfl,h1,h2⟩:=h
       obtain rfl:u=Value.ref a:=r
       obtain ⟨its,rv,⟨o,e1,e2,k,e3⟩,_⟩:=I.tuple h1
       obtain ⟨as,q⟩:=all m ds vs its (by simpa [zas] using hp) h2 rv
       exact ⟨_,.tuple e1 e2 e3 (by simpa using q)⟩
   |non=>exact zd8 I .non m v u hp h r
   |bl b=>exact zd8 I (.bl b) m v u hp h r
   |int i=>exact zd8 I (.int i) m v u hp h r
   |str x=>exact zd8 I (.str x) m v u hp h r
   |fn f=>exact zd8 I (.fn f) m v u hp h r
   |exc y p=>exact zd8 I (.exc y p) m v u hp h r
abbrev Rm (X:Cx):Prop:=X.A.units+100<cLine
def zg6 (fa:Fa)(K:PySem.W.Frag)(o:Cmp):R2:=fun x y H Q=>∃μ M dx dy b,RelM fa K μ H M/\Rep fa K μ H dx x/\Rep fa K μ H dy y/\zb2 o dx dy M=some b/\Q (.bl b) H
theorem zts {a b:D}{k:Bool}(hs:(isS a&&isS b)=false)(h:eqD a b=some k):zas 64 a=true/\zas 64 b=true/\k=zbr a b:=by
 unfold eqD at h
 rw [hs,Bool.false_or] at h
 split at h
 ·next q=>
  simp only [Bool.and_eq_true] at q
  exact ⟨q.1,q.2,(Option.some.inj h).symm⟩
 ·cases h
theorem ztl (d:D):isS (view M d)=isS d:=by
 cases d with
 |cell k=>cases e:M[k]?<;>simp [view,e,isS]
 |_=>rfl
theorem zqp (n:Nat)(d:D):isS (zcw n M d)=isS d:=by
 cases n with
 |zero=>rfl
 | succ n =>
   cases d with
   |cell k=>cases e:M[k]?<;>simp [zcw,e,isS]
   |_=>rfl
theorem zqu (I:Inv X pins σ H s)(hM:RelM fa X.K μ H M){a b:D}{x y:V}{v u:Value}{k:Bool}(hs:(isS a&&isS b)=false)(h:eqM M a b=some k)(h1:Rep fa X.K μ H a x)(h2:Rep fa X.K μ H b y)(rx:RelV x v)(ry:RelV y u) :
 ∃c e as bs,zas 64 c=true/\zas 64 e=true/\k=zbr c e/\Reads s.heap v (toPy c) as/\Reads s.heap u (toPy e) bs:=by
 unfold eqM at h
 cases q:eqD (view M a) (view M b) with
 | some r =>
   rw [q] at h
   cases h
   obtain ⟨p1,p2,e⟩:=zts (by rw [ztl,ztl];exact hs) q
   obtain ⟨as,r1⟩:=zkz I hM p1 h1 rx
   obtain ⟨bs,r2⟩:=zkz I hM p2 h2 ry
   exact ⟨_,_,as,bs,p1,p2,e,r1,r2⟩
 | none =>
   rw [q] at h
   obtain ⟨p1,p2,e⟩:=zts (by rw [zqp,zqp];exact hs) h
   obtain ⟨as,r1⟩:=zhx I hM 64 64 a x v p1 h1 rx
   obtain ⟨bs,r2⟩:=zhx I hM 64 64 b y u p2 h2 ry
   exact ⟨_,_,as,bs,p1,p2,e,r1,r2⟩
theorem zr7 {a b:D}(h:(isS a&&isS b)=true):∃x y,a=.str x/\b=.str y:=by
 cases a with
 | str x =>
   cases b with
   |str y=>exact ⟨x,y,rfl,rfl⟩
   |_=>cases h
 |_=>cases h
theorem zpy {x y:Str}:eqM M (.str x) (.str y)=some (x==y):=by
 have e:zbr (.str x) (.str y)=(x==y):=by simp [zbr]
 rw [<- e];rfl
theorem c_eq (hu:Rm X):OpR X (compareOp .Eq) (zg6 fa X.K .eq):=by
 intro pins s σ H x y v u Q I rx ry h
 obtain ⟨μ,M,dx,dy,b,hM,h1,h2,e,q⟩:=h
 cases hs:isS dx&&isS dy with
 | true =>
   obtain ⟨i,j,rfl,rfl⟩:=zr7 hs
   obtain rfl:x=.str i:=h1
   obtain rfl:y=.str j:=h2
   obtain rfl:(i==j)=b:=Option.some.inj (zpy.symm.trans e)
   exact op_eq pins s σ H _ _ v u Q I rx ry ⟨rfl,by rw [zmw];exact q⟩
 | false =>
   obtain ⟨_,_,as,bs,p1,p2,rfl,r1,r2⟩:=zqu I hM hs (show eqM M dx dy=some b from e) h1 h2 rx ry
   refine SeqAt.compareEq_shaped r1 r2 (zjv p1) (zjv p2) (by unfold Rm at hu;omega) ?_
   rw [zms 64 64 _ _ p1 p2]
   exact ⟨.bl _,H,I,rfl,q⟩
theorem c_ne (hu:Rm X):OpR X (compareOp .NotEq) (zg6 fa X.K .ne):=by
 intro pins s σ H x y v u Q I rx ry h
 obtain ⟨μ,M,dx,dy,b,hM,h1,h2,e,q⟩:=h
 have e:(eqM M dx dy).map (!·)=some b:=e
 cases e':eqM M dx dy with
 |none=>rw [e'] at e;cases e
 | some k =>
   rw [e'] at e
   obtain rfl:(!k)=b:=Option.some.inj e
   cases hs:isS dx&&isS dy with
   | true =>
     obtain ⟨i,j,rfl,rfl⟩:=zr7 hs
     obtain rfl:x=.str i:=h1
     obtain rfl:y=.str j:=h2
     obtain rfl:(i==j)=k:=Option.some.inj (zpy.symm.trans e')
     exact op_ne pins s σ H _ _ v u Q I rx ry ⟨rfl,by rw [zmw];exact q⟩
   | false =>
     obtain ⟨_,_,as,bs,p1,p2,rfl,r1,r2⟩:=zqu I hM hs e' h1 h2 rx ry
     refine SeqAt.compareNe_shaped r1 r2 (zjv p1) (zjv p2) (by unfold Rm at hu;omega) ?_
     rw [zms 64 64 _ _ p1 p2]
     exact ⟨.bl _,H,I,rfl,q⟩
end
end LD
namespace LD
open PySem PySem.Spec PyProof.Rows L2
section
variable {fa:Fa}{X:Cx}{μ:Mu}{H:Hp}{σ:L2.St}{pins:List (Addr×Obj)}{s:Shared}{M:Mem}
theorem zh9 {f:Value->Value->Sem Value}{r r':R2}(h:OpR X f r)(i:∀x y H Q,r' x y H Q->r x y H Q):OpR X f r':=fun pins s σ H x y v u Q I rx ry q=>h pins s σ H x y v u Q I rx ry (i x y H Q q)
theorem zjr {f:Value}{r r':List V->Hp->VK->Prop}(h:zc0 X f r)(i:∀xs H Q,r' xs H Q->r xs H Q):zc0 X f r':=fun pins s σ H xs us Q I rx q=>h pins s σ H xs us Q I rx (i xs H Q q)
theorem zmx {o:Cmp}{g:Int->Int->Bool}(ho:o=.lt\/o=.le\/o=.gt\/o=.ge)(hg:∀i j,zb2 o (.int i) (.int j) []=some (g i j)){x y:V}{Q:VK}(h:zg6 fa X.K o x y H Q) :
 ∃i j,x=.int i/\y=.int j/\Q (.bl (g i j)) H:=by
 obtain ⟨μ,M,dx,dy,b,hM,h1,h2,e,q⟩:=h
 have key:∀i j,dx=.int i->dy=.int j->∃i j,x=.int i/\y=.int j/\Q (.bl (g i j)) H:=fun i j e1 e2=>by
  subst e1 e2
  have e3:zb2 o (.int i) (.int j) M=some (g i j):=by
   have:=hg i j
   rcases ho with rfl|rfl|rfl|rfl<;>exact this
  rw [e] at e3
  have e4:=Option.some.inj e3
  subst e4
  exact ⟨i,j,h1,h2,q⟩
 rcases ho with rfl|rfl|rfl|rfl<;>
 ·cases dx with
  |int i=>cases dy<;>first|exact key _ _ rfl rfl|cases e
  |_=>cases e
theorem c_lt:OpR X (compareOp .Lt) (zg6 fa X.K .lt):=zh9 op_lt fun x y H Q h=>zmx (.inl rfl) (fun _ _=>rfl) h
theorem c_le:OpR X (compareOp .LtE) (zg6 fa X.K .le):=zh9 op_le fun x y H Q h=>zmx (.inr (.inl rfl)) (fun _ _=>rfl) h
theorem c_gt:OpR X (compareOp .Gt) (zg6 fa X.K .gt):=zh9 op_gt fun x y H Q h=>zmx (.inr (.inr (.inl rfl))) (fun _ _=>rfl) h
theorem c_ge:OpR X (compareOp .GtE) (zg6 fa X.K .ge):=zh9 op_ge fun x y H Q h=>zmx (.inr (.inr (.inr rfl))) (fun _ _=>rfl) h
theorem zut {d:D}{v:V}{K:PySem.W.Frag}(h:Rep fa K μ H d v):decide (v=.non)=zli d:=by
 cases d with
 |non=>obtain rfl:v=.non:=h;rfl
 |bl b=>obtain rfl:v=.bl b:=h;rfl
 |int b=>obtain rfl:v=.int b:=h;rfl
 |str b=>obtain rfl:v=.str b:=h;rfl
 |tup b=>obtain ⟨a,vs,rfl,_⟩:=h;rfl
 |lst b=>obtain ⟨a,vs,rfl,_⟩:=h;rfl
 |frz b=>obtain ⟨a,vs,rfl,_⟩:=h;rfl
 |cell b=>obtain ⟨a,rfl,_⟩:=h;rfl
 |fn b=>obtain ⟨a,rfl,_⟩:=h;rfl
 |exc y p=>obtain ⟨a,_,_,rfl,_⟩:=h;rfl
theorem c_isN:OpR X (compareOp .Is) (zg6 fa X.K .isN):=zh9 op_isN fun x y H Q h=>by
 obtain ⟨μ,M,dx,dy,b,hM,h1,h2,e,q⟩:=h
 cases dy<;>first|cases (show (none:Option Bool)=some b from e)|skip
 refine ⟨h2,?_⟩
 rw [zut h1]
 have e:some (zli dx)=some b:=e
 rw [Option.some.inj e];exact q
theorem c_notN:OpR X (compareOp .IsNot) (zg6 fa X.K .notN):=zh9 z38 fun x y H Q h=>by
 obtain ⟨μ,M,dx,dy,b,hM,h1,h2,e,q⟩:=h
 cases dy<;>first|cases (show (none:Option Bool)=some b from e)|skip
 refine ⟨h2,?_⟩
 rw [zut h1]
 have e:some (!zli dx)=some b:=e
 rw [Option.some.inj e];exact q
theorem zt5 (x:D)(hx:zas 64 x=true):∀(ds:List D),ds.all (zas 63)=true->((zb5 ds).any fun y=>PyData.eqv y (toPy x))=ds.any fun y=>zbr y x
 |[],_=>rfl
 | d :: r, h => by
   simp only [List.all_cons,Bool.and_eq_true] at h
   simp only [zb5,List.any_cons,zms 63 64 d x h.1 hx,zt5 x hx r h.2]
theorem zr2 (n:Nat):∀ds:List D,ds.all (zas n)=true->PyData.canLayAll0 (zb5 ds)=true/\PyData.depthAll (zb5 ds)<=n
 |[],_=>by simp [zb5,PyData.canLayAll0,PyData.depthAll]
 | d :: r, h => by
   simp only [List.all_cons,Bool.and_eq_true] at h
   obtain ⟨h1,h2⟩:=zmg n d h.1
   obtain ⟨h3,h4⟩:=zr2 n r h.2
   simp only [zb5,PyData.canLayAll0,PyData.depthAll,h1,h3,Bool.and_self,true_and]
   omega
theorem zxo (I:Inv X pins σ H s)(hM:RelM fa X.K μ H M){d:D}{v:V}{u:Value}{ds:List D}(hp:ds.all (zas 63)=true)(h:Rep fa X.K μ H d v)(r:RelV v u)(e:zcp M d=some ds) :
 (∃as,Reads s.heap u (.list (zb5 ds)) as)\/∃as,Reads s.heap u (.tuple (zb5 ds)) as:=by
 obtain ⟨a,vs,rfl,h1,h2⟩:=zjf (ds:=ds) hM h e
 obtain rfl:u=Value.ref a:=r
 rcases h1 with h1|h1
 ·obtain ⟨its,rv,⟨o,k,e1,e2,e4,e3⟩,_⟩:=I.list h1
  obtain ⟨as,q⟩:=zfz I ds 63 vs its hp h2 rv
  exact .inl ⟨_,.list e1 e2 e3 (by simpa using q)⟩
 ·obtain ⟨its,rv,⟨o,e1,e2,k,e3⟩,_⟩:=I.tuple h1
  obtain ⟨as,q⟩:=zfz I ds 63 vs its hp h2 rv
  exact .inr ⟨_,.tuple e1 e2 e3 (by simpa using q)⟩
theorem zyq (hu:Rm X){x y:V}{v u:Value}{dx dy:D}{ds:List D}{b:Bool}{Q:Value->Shared->Prop}(I:Inv X pins σ H s)(hM:RelM fa X.K μ H M)(h1:Rep fa X.K μ H dx x)(h2:Rep fa X.K μ H dy y)(rx:RelV x v)(ry:RelV y u)
 (e1:zcp M dy=some ds) (e2:inL (view M dx) ds=some b) (neg:Bool) (q:Q (.bool (if neg then !b else b)) s):wpAny (model X.prog X.w) X.A (compareOp (if neg then .NotIn else .In) v u) Q X.xe s:=by
 unfold inL at e2
 split at e2
 ·next z=>
  simp only [Bool.and_eq_true] at z
  obtain ⟨p1,p2⟩:=z
  have e3:=Option.some.inj e2
  subst e3
  obtain ⟨as,r1⟩:=zkz I hM p1 h1 rx
  obtain ⟨c1,d1⟩:=zmg 64 _ p1
  obtain ⟨c2,d2⟩:=zr2 63 ds p2
  have hu':X.A.units+1+min (PyData.depthAll (zb5 ds)) (toPy (view M dx)).depth<cLine:=by unfold Rm at hu;omega
  rw [<- zt5 _ p1 ds p2] at q
  rcases zxo I hM p2 h2 ry e1 with ⟨bs,r2⟩|⟨bs,r2⟩
  ·cases neg
   ·exact SeqAt.in_list_reads r2 r1 c2 c1 hu' q
   ·exact SeqAt.notIn_list_reads r2 r1 c2 c1 hu' q
  ·cases neg
   ·exact SeqAt.in_tuple_reads r2 r1 c2 c1 hu' q
   ·exact SeqAt.notIn_tuple_reads r2 r1 c2 c1 hu' q
 ·cases e2
theorem c_in (hu:Rm X):OpR X (compareOp .In) (zg6 fa X.K .isin):=by
 intro pins s σ H x y v u Q I rx ry h
 obtain ⟨μ,M,dx,dy,b,hM,h1,h2,e,q⟩:=h
 have gen:(zcp M dy).bind (inL (view M dx))=some b->wpAny (model X.prog X.w) X.A (compareOp .In v u) (EP X pins σ Q) X.xe s:=fun e=>by
  cases e1:zcp M dy with
  |none=>rw [e1] at e;cases e
  | some ds =>
    rw [e1] at e
    exact zyq hu I hM h1 h2 rx ry e1 e false ⟨.bl b,H,I,rfl,q⟩
 by_cases hs:(∃a,dx=.str a)/\∃c,dy=.str c
 ·obtain ⟨⟨a,rfl⟩,c,rfl⟩:=hs
  have e:some (zi5 a c)=some b:=e
  have e':=Option.some.inj e
  subst e'
  exact zya pins s σ H x y v u Q I rx ry ⟨a,c,h1,h2,q⟩
 ·refine gen ?_
  cases dx<;>first|exact e|(cases dy<;>first|exact e|exact absurd ⟨⟨_,rfl⟩,_,rfl⟩ hs)
theorem z5h (hu:Rm X):OpR X (compareOp .NotIn) (zg6 fa X.K .notin):=by
 intro pins s σ H x y v u Q I rx ry h
 obtain ⟨μ,M,dx,dy,b,hM,h1,h2,e,q⟩:=h
 have gen:((zcp M dy).bind (inL (view M dx))).map (!·)=some b->wpAny (model X.prog X.w) X.A (compareOp .NotIn v u) (EP X pins σ Q) X.xe s:=fun e=>by
  cases e1:zcp M dy with
  |none=>rw [e1] at e;cases e
  | some ds =>
    rw [e1] at e
    cases e2:inL (view M dx) ds with
    |none=>rw [Option.bind_some,e2] at e;cases e
    | some k =>
      rw [Option.bind_some,e2] at e
      have e':=Option.some.inj e
      subst e'
      exact zyq hu I hM h1 h2 rx ry e1 e2 true ⟨.bl _,H,I,rfl,q⟩
 by_cases hs:(∃a,dx=.str a)/\∃c,dy=.str c
 ·obtain ⟨⟨a,rfl⟩,c,rfl⟩:=hs
  have e:some (!zi5 a c)=some b:=e
  have e':=Option.some.inj e
  subst e'
  exact zsx pins s σ H x y v u Q I rx ry ⟨a,c,h1,h2,q⟩
 ·refine gen ?_
  cases dx<;>first|exact e|(cases dy<;>first|exact e|exact absurd ⟨⟨_,rfl⟩,_,rfl⟩ hs)
def zc8:Cmp->CmpOp
 |.eq=>.Eq|.ne=>.NotEq|.lt=>.Lt|.le=>.LtE|.gt=>.Gt|.ge=>.GtE|.isN=>.Is|.notN=>.IsNot|.isin=>.In|.notin=>.NotIn
theorem zmz (hu:Rm X):∀o:Cmp,OpR X (compareOp (zc8 o)) (zg6 fa X.K o)
 |.eq=>c_eq hu|.ne=>c_ne hu|.lt=>c_lt|.le=>c_le|.gt=>c_gt|.ge=>c_ge|.isN=>c_isN|.notN=>c_notN|.isin=>c_in hu|.notin=>z5h hu
def zl0 (fa:Fa)(K:PySem.W.Frag)(m:Bool)(o:Bin):R2:=fun x y H Q=>∃μ M dx dy,RelM fa K μ H M/\Rep fa K μ H dx x/\Rep fa K μ H dy y/\okE (zei m o dx dy M) (zbs fa K μ H Q)
theorem zbn {Q:VK}{d:D}{v:V}(hM:RelM fa X.K μ H M)(h:zbs fa X.K μ H Q d M)(r:Rep fa X.K μ H d v):Q v H:=h v H μ .refl hM r
theorem zgm {Q:VK}{m:Bool}{ds:List D}{vs:List V}(hM:RelM fa X.K μ H M)(r:za7 fa X.K μ H ds vs)(h:okE (zb6 m ds M) (zbs fa X.K μ H Q)):ds.length<=sz/\∀p,H p=none->Q (.ref p) (upd H p (.lst vs)):=by
 unfold zb6 at h
 split at h
 ·next hz=>
  refine ⟨hz,fun p hp=>?_⟩
  cases m with
  | true =>
    have h:zbs fa X.K μ H Q (.cell M.length) (M++[ds]):=h
    exact h (.ref p) _ (zf0 μ M.length p) (Ext.cell hM hp) (hM.cell hp r) ⟨p,rfl,by simp [zf0]⟩
  | false =>
    have h:zbs fa X.K μ H Q (.lst ds) M:=h
    exact h (.ref p) _ μ (Ext.alloc hM hp) (hM.alloc hp) ⟨p,vs,rfl,⟨zcf,hM.fresh hp⟩,r.ext (Ext.alloc hM hp)⟩
 ·exact h.elim
theorem zhl {Q:VK}{ds:List D}{vs:List V}(hM:RelM fa X.K μ H M)(r:za7 fa X.K μ H ds vs)(h:zbs fa X.K μ H Q (.tup ds) M):∀p,H p=none->Q (.ref p) (upd H p (.tup vs)):=fun p hp=>
 h (.ref p) _ μ (Ext.alloc hM hp) (hM.alloc hp) ⟨p,vs,rfl,.of zcf,r.ext (Ext.alloc hM hp)⟩
theorem zdt:sz=sizeLine:=by rw [sizeLine_eq];rfl
theorem z0o:OpR X (binaryOp .Add) (fun x y H Q=>∃a b ys,x=.ref a/\y=.ref b/\SqT X.K H a []/\SqT X.K H b ys/\Q (.ref b) H):=by
 intro pins s σ H x y v u Q I rx ry h
 obtain ⟨a,b,ys,rfl,rfl,ha,hb,q⟩:=h
 cases rx
 cases ry
 obtain ⟨its,r1,p1,_⟩:=I.tuple ha
 obtain ⟨its2,r2,p2,_⟩:=I.tuple hb
 cases r1
 obtain ⟨⟨cls,dd,data,sl⟩,ho,hc,n,hd⟩:=id p1
 obtain ⟨⟨cls2,dd2,data2,sl2⟩,ho2,hc2,n2,hd2⟩:=id p2
 simp only at hc hd hc2 hd2
 subst hc hd hc2 hd2
 exact concat_meets ⟨_,ho,rfl⟩ ⟨_,ho2,rfl⟩ noFill_tuple_add seq_tuple_add PySem.F.slot_tuple_add PySem.F.entry_tuple_add (PySem.F.args_tuple_add_2 _ _)
  (tuple_addW0 a b #[] its2.toArray n n2 dd dd2 sl sl2 rfl) ⟨ho,ho2,⟨.ref b,H,I,rfl,q⟩⟩
theorem z18 {m:Bool}{x y:V}{v u:Value}{dx dy:D}{Q:VK}(I:Inv X pins σ H s)(hM:RelM fa X.K μ H M)(h1:Rep fa X.K μ H dx x)(h2:Rep fa X.K μ H dy y)(rx:RelV x v)(ry:RelV y u)
 (h:okE (match zjk M dx,zjk M dy with|some x,some y=>zb6 m (x++y) M|_,_=>.bad) (zbs fa X.K μ H Q)):wpAny (model X.prog X.w) X.A (binaryOp .Add v u) (EP X pins σ Q) X.xe s:=by
 cases e1:zjk M dx with
 |none=>rw [e1] at h;exact h.elim
 | some xs =>
   cases e2:zjk M dy with
   |none=>rw [e1,e2] at h;exact h.elim
   | some ys =>
     rw [e1,e2] at h
     obtain ⟨a,vs,rfl,ha,ra⟩:=zjg hM h1 e1
     obtain ⟨b,ws,rfl,hb,rb⟩:=zjg hM h2 e2
     obtain ⟨hz,k⟩:=zgm hM (ra.append rb) h
     refine op_cat pins s σ H _ _ v u Q I rx ry ⟨a,b,vs,ws,rfl,rfl,ha,hb,?_,k⟩
     rw [ra.length,rb.length,<- List.length_append,<- zdt];exact hz
theorem b_add (m:Bool):OpR X (binaryOp .Add) (zl0 fa X.K m .add):=by
 intro pins s σ H x y v u Q I rx ry h
 obtain ⟨μ,M,dx,dy,hM,h1,h2,h⟩:=h
 have hi:∀i j,dx=.int i->dy=.int j->wpAny (model X.prog X.w) X.A (binaryOp .Add v u) (EP X pins σ Q) X.xe s:=fun i j e1 e2=>by
  subst e1 e2
  exact op_add pins s σ H x y v u Q I rx ry ⟨i,j,h1,h2,zbn (v:=.int (i+j)) hM h rfl⟩
 have hs:∀i j,dx=.str i->dy=.str j->wpAny (model X.prog X.w) X.A (binaryOp .Add v u) (EP X pins σ Q) X.xe s:=fun i j e1 e2=>by
  subst e1 e2
  have h:okE (if i.cps.size+j.cps.size<=sz then .ok (.str ⟨i.cps++j.cps⟩) M else .bad) (zbs fa X.K μ H Q):=h
  split at h
  ·next hz=>exact zvy pins s σ H x y v u Q I rx ry ⟨i,j,h1,h2,by rw [<- zdt];exact hz,zbn (v:=.str ⟨i.cps++j.cps⟩) hM h rfl⟩
  ·exact h.elim
 have ht:∀i j,dx=.tup i->dy=.tup j->wpAny (model X.prog X.w) X.A (binaryOp .Add v u) (EP X pins σ Q) X.xe s:=fun i j e1 e2=>by
  subst e1 e2
  have h:okE (if (i++j).length<=sz then .ok (.tup (i++j)) M else .bad) (zbs fa X.K μ H Q):=h
  split at h
  ·next hz=>
   have h:zbs fa X.K μ H Q (.tup (i++j)) M:=h
   obtain ⟨a,vs,e1,ha,ra⟩:=id h1
   obtain ⟨b,ws,e2,hb,rb⟩:=id h2
   by_cases h0:i=[]
   ·subst h0
    obtain rfl:vs=[]:=ra
    exact z0o pins s σ H x y v u Q I rx ry ⟨a,b,ws,e1,e2,ha,hb,zbn hM h ⟨b,ws,rfl,hb,rb⟩⟩
   ·have hv:vs≠[]:=fun z=>h0 (by have:=ra.length;rw [z] at this;exact List.length_eq_zero_iff.mp this.symm)
    refine z4a pins s σ H x y v u Q I rx ry ⟨a,b,vs,ws,e1,e2,ha,hb,hv,?_,fun z=>?_,fun _=>zhl hM (ra.append rb) h⟩
    ·rw [ra.length,rb.length,<- List.length_append,<- zdt];exact hz
    ·subst z
     have ej:j=[]:=List.length_eq_zero_iff.mp rb.length.symm
     subst ej
     exact zbn hM h ⟨a,vs,rfl,ha,by simpa using ra⟩
  ·exact h.elim
 cases dx<;>cases dy<;>first|exact hi _ _ rfl rfl|exact hs _ _ rfl rfl|exact ht _ _ rfl rfl|exact z18 (m:=m) I hM h1 h2 rx ry h
theorem zrr {op:Operator}{o:Bin}{m:Bool}{C:Int->Int->Prop}{g:Int->Int->Int}(hr:OpR X (binaryOp op) (rI C fun i j=>.int (g i j)))
 (hD:∀dx dy M (P:D->Mem->Prop),okE (zei m o dx dy M) P->∃i j,dx=.int i/\dy=.int j/\C i j/\P (.int (g i j)) M):OpR X (binaryOp op) (zl0 fa X.K m o):=zh9 hr fun x y H Q h=>by
 obtain ⟨μ,M,dx,dy,hM,h1,h2,h⟩:=h
 obtain ⟨i,j,rfl,rfl,c,q⟩:=hD dx dy M _ h
 exact ⟨i,j,h1,h2,c,zbn (v:=.int (g i j)) hM q rfl⟩
theorem b_sub (m:Bool):OpR X (binaryOp .Sub) (zl0 fa X.K m .sub):=zrr (C:=fun _ _=>True) (g:=fun i j=>i-j) (zh9 op_sub fun x y H Q ⟨i,j,e1,e2,_,q⟩=>⟨i,j,e1,e2,q⟩) fun dx dy M P h=>by
 cases dx<;>cases dy<;>first|exact ⟨_,_,rfl,rfl,trivial,h⟩|exact h.elim
theorem b_fdiv (m:Bool):OpR X (binaryOp .FloorDiv) (zl0 fa X.K m .fdiv):=zrr z39 fun dx dy M P h=>by
 have key:∀i j,dx=.int i->dy=.int j->∃i j,dx=.int i/\dy=.int j/\CDiv i j/\P (.int (i / j)) M:=fun i j e1 e2=>by
  subst e1 e2
  have h:okE (if 0<j/\j<1073741824 then .ok (.int (i / j)) M else .bad) P:=h
  split at h
  ·next c=>exact ⟨i,j,rfl,rfl,c,h⟩
  ·exact h.elim
 cases dx<;>cases dy<;>first|exact key _ _ rfl rfl|exact h.elim
theorem b_mod (m:Bool):OpR X (binaryOp .Mod) (zl0 fa X.K m .mod):=zrr op_mod fun dx dy M P h=>by
 have key:∀i j,dx=.int i->dy=.int j->∃i j,dx=.int i/\dy=.int j/\0<j/\P (.int (i % j)) M:=fun i j e1 e2=>by
  subst e1 e2
  have h:okE (if 0<j then .ok (.int (i % j)) M else .bad) P:=h
  split at h
  ·next c=>exact ⟨i,j,rfl,rfl,c,h⟩
  ·exact h.elim
 cases dx<;>cases dy<;>first|exact key _ _ rfl rfl|exact h.elim
theorem b_pow (m:Bool):OpR X (binaryOp .Pow) (zl0 fa X.K m .pow):=zrr op_pow fun dx dy M P h=>by
 have key:∀i j,dx=.int i->dy=.int j->∃i j,dx=.int i/\dy=.int j/\CPow i j/\P (.int (i^j.toNat)) M:=fun i j e1 e2=>by
  subst e1 e2
  have h:okE (if 0<=j/\j<=1000000/\i.natAbs<2^64 then .ok (.int (i^j.toNat)) M else .bad) P:=h
  split at h
  ·next c=>exact ⟨i,j,rfl,rfl,c,h⟩
  ·exact h.elim
 cases dx<;>cases dy<;>first|exact key _ _ rfl rfl|exact h.elim
theorem z0d {m:Bool}{x y:V}{v u:Value}{dx:D}{j:Int}{Q:VK}(I:Inv X pins σ H s)(hM:RelM fa X.K μ H M)(h1:Rep fa X.K μ H dx x)(h2:Rep fa X.K μ H (.int j) y)(rx:RelV x v)(ry:RelV y u)
 (h:okE (match zjk M dx with|some x=>if x.length*j.toNat<=sz/\-(2^63)<=j/\j<2^63 then zb6 m (List.replicate j.toNat x).flatten M else .bad|none=>.bad) (zbs fa X.K μ H Q)) :
 wpAny (model X.prog X.w) X.A (binaryOp .Mult v u) (EP X pins σ Q) X.xe s:=by
 cases e1:zjk M dx with
 |none=>rw [e1] at h;exact h.elim
 | some xs =>
   rw [e1] at h
   simp only at h
   split at h
   ·next c=>
    obtain ⟨a,vs,rfl,ha,ra⟩:=zjg hM h1 e1
    obtain ⟨hz,k⟩:=zgm hM (ra.rep j.toNat) h
    exact op_rep pins s σ H _ _ v u Q I rx ry ⟨a,j,vs,rfl,h2,ha,c.2.1,c.2.2,by rw [ra.length,<- zdt];exact c.1,k⟩
   ·exact h.elim
end
end LD
namespace LD
open PySem PySem.Spec PyProof.Rows L2 PySem.Builtin
open PySem.Sem (wp)
theorem znn:fillsNumberSlot (.type "tuple") "mul"=pure false:=
 PySem.fillsNumberSlot_seq (id:="tuple.__mul__") (r:=some (.builtin "tuple.__rmul__")) F.slot_tuple_mul.lookup (by decide +kernel) F.slot_tuple_rmul.lookup (by decide +kernel)
theorem zsn:seqRepeat? (.type "tuple")=pure (some (.builtin "tuple.__mul__")):=by
 unfold seqRepeat?
 rw [PySem.seqSlot_of (T:="tuple") (name:="__mul__") (id:="tuple.__mul__") F.slot_tuple_mul.lookup (by decide +kernel),PySem.seqSlot_of (T:="tuple") (name:="__rmul__") (id:="tuple.__rmul__") F.slot_tuple_rmul.lookup (by decide +kernel)]
 rfl
theorem zpb (a:Int)(t:Tok)(l:Addr)(items:Array Value)(n:Nat)(dd:Option Addr)(sl:Array (Option Value)) :
 Meets (Builtin.«int.__rmul__» ⟨[.int a t,.ref l],[]⟩) (fun _ R s=>s.heap.get? l=some {cls:=.type "tuple",dict:=dd,data:=.seq items n,slots:=sl}/\R (.ok (.ret Value.notImplemented)) s):=
 .of_wp fun prog w A R s h=>by obtain ⟨hp,g,d,tk,os⟩:=s;obtain ⟨hl,h⟩:=h;wp_walk using wpAny_loadPart' hl;exact ⟨_,rfl,h⟩
theorem zvx {x:Int}(h0:-(2^63)<=x)(h1:x<2^63):(decide (x < -2^63)||decide (x≥2^63))=false:=by
 rw [decide_eq_false (by omega),decide_eq_false (by omega)];rfl
theorem zpo (l:Addr)(items:Array Value)(n:Nat)(dd:Option Addr)(sl:Array (Option Value))(x:Int)(u:Tok)(h0:-(2^63)<=x)(h1:x<2^63)(hc:(items.isEmpty||x==1)=true) :
 Meets (Builtin.«tuple.__mul__» ⟨[.ref l,.int x u],[]⟩) (fun _ R s=>s.heap.get? l=some {cls:=.type "tuple",dict:=dd,data:=.seq items n,slots:=sl}/\R (.ok (.ret (.ref l))) s):=
 .of_wp fun prog w A R s h=>by
  obtain ⟨hp,g,d,tk,os⟩:=s;obtain ⟨hl,h⟩:=h;have f1:=AutoSeq1.idx_int
  wp_walk using wpAny_loadPart' hl
  refine wpAny_ite_false (by rw [zvx h0 h1];rfl) ?_
  wp_walk using wpAny_loadPart' hl
  exact ⟨_,rfl,h⟩
theorem zpp (l:Addr)(items:Array Value)(n:Nat)(dd:Option Addr)(sl:Array (Option Value))(x:Int)(u:Tok)(h0:-(2^63)<=x)(h1:x<2^63)(hc:(items.isEmpty||x==1)=false)(hc1:(decide (x<=0)||items.isEmpty)=true) :
 Meets (Builtin.«tuple.__mul__» ⟨[.ref l,.int x u],[]⟩) (fun _ R s=>s.heap.get? l=some {cls:=.type "tuple",dict:=dd,data:=.seq items n,slots:=sl}/\R (.ok (.ret (.ref s.heap.objs.size))) {s with heap:=s.heap.push {cls:=Value.type "tuple",data:=Data.seq #[]},toks:=s.toks}):=
 .of_wp fun prog w A R s h=>by
  obtain ⟨hp,g,d,tk,os⟩:=s;obtain ⟨hl,h⟩:=h;have f1:=AutoSeq1.idx_int
  wp_walk using wpAny_loadPart' hl
  refine wpAny_ite_false (by rw [zvx h0 h1];rfl) ?_
  wp_walk using wpAny_loadPart' hl
  exact ⟨_,rfl,h⟩
theorem zpq (l:Addr)(items:Array Value)(n:Nat)(dd:Option Addr)(sl:Array (Option Value))(x:Int)(u:Tok)(h0:-(2^63)<=x)(h1:x<2^63)(hc:(items.isEmpty||x==1)=false)(hc1:(decide (x<=0)||items.isEmpty)=false)
 (hs:(items.size:Int)*x<=16777216) (hs2:(List.foldl (fun x1 x2=>x1++x2) #[] (List.replicate x.toNat items)).size<=sizeLine) :
 Meets (Builtin.«tuple.__mul__» ⟨[.ref l,.int x u],[]⟩) (fun _ R s=>s.heap.get? l=some {cls:=.type "tuple",dict:=dd,data:=.seq items n,slots:=sl}/\R (.ok (.ret (.ref s.heap.objs.size))) {s with heap:=s.heap.push {cls:=Value.type "tuple",data:=Data.seq (List.foldl (fun x1 x2=>x1++x2) #[] (List.replicate x.toNat items))},toks:=s.toks}):=
 .of_wp fun prog w A R s h=>by
  obtain ⟨hp,g,d,tk,os⟩:=s;obtain ⟨hl,h⟩:=h;have f1:=AutoSeq1.idx_int
  wp_walk using wpAny_loadPart' hl
  refine wpAny_ite_false (by rw [zvx h0 h1];rfl) ?_
  wp_walk using wpAny_loadPart' hl
  refine wpAny_ite_false (decide_eq_false (by omega)) ?_
  wp_walk using wpAny_loadPart' hl
  refine wpAny_ite_false (decide_eq_false (by unfold Tuple.tupleTooMany;rw [sizeLine_eq];simp;omega)) ?_
  wp_walk using wpAny_loadPart' hl
  exact ⟨_,rfl,h⟩
section
variable {fa:Fa}{X:Cx}{μ:Mu}{H:Hp}{σ:L2.St}{pins:List (Addr×Obj)}{s:Shared}{M:Mem}
theorem zqk (its:List Value)(m:Nat):List.foldl (fun x1 x2=>x1++x2) #[] (List.replicate m its.toArray)=(List.replicate m its).flatten.toArray:=by
 have:=foldl_rep its m []
 rw [List.nil_append] at this
 exact this
theorem z37:OpR X (binaryOp .Mult) (fun x y H Q=>∃l k xs,x=.ref l/\y=.int k/\SqT X.K H l xs/\-(2^63)<=k/\k<2^63/\xs.length*k.toNat<=sz/\
 ((List.replicate k.toNat xs).flatten=xs->Q (.ref l) H)/\∀p,H p=none->Q (.ref p) (upd H p (.tup (List.replicate k.toNat xs).flatten))):=by
 intro pins s σ H x y v u Q I rx ry h
 obtain ⟨l,k,xs,rfl,rfl,hq,h1,h2,hz,q1,q2⟩:=h
 cases rx
 obtain ⟨t,rfl⟩:=ry
 obtain ⟨its,r,p,hzz⟩:=I.tuple hq
 have hl:=r.length
 obtain ⟨⟨cls,dd,data,sl⟩,ho,hc,n,hd⟩:=id p
 simp only at hc hd
 subst hc hd
 refine wpAny_binaryOp_repeat_ref (T:="tuple") (U:="int") (by decide) ⟨_,ho,rfl⟩ (fun s'=>typeIs_int s' k t) znn F.fills_int_mul F.slot_int_rmul zsn F.slot_int_index.lookup
  (call_meets F.slot_int_rmul (typeIs_int s k t) F.entry_int_rmul (F.args_int_rmul_2 _ _) (zpb k t l its.toArray n dd sl) ⟨ho,rfl,⟨_,ho,rfl⟩,?_⟩)
 have new:∀(its':List Value),Vals (List.replicate k.toNat xs).flatten its'->EP X pins σ Q (.ref s.heap.objs.size) {s with heap:=s.heap.push {cls:=Value.type "tuple",data:=Data.seq its'.toArray}}:=fun its' r'=>by
  refine ⟨.ref s.heap.objs.size,_,I.laid (t':=s.toks) (o:=.tup (List.replicate k.toNat xs).flatten) (fun b ob q=>tqc _ q) (tqg _) ?_,rfl,q2 _ (I.hok.fresh (tqg _))⟩
  exact ⟨by rw [len_rep,Nat.mul_comm,<- zdt];exact hz,_,r',IsTup.new _ _⟩
 by_cases c1:(its.toArray.isEmpty||k==1)=true
 ·refine call_meets F.slot_tuple_mul ⟨_,ho,rfl⟩ F.entry_tuple_mul (F.args_tuple_mul_2 _ _) (zpo l its.toArray n dd sl k t h1 h2 c1) ⟨ho,⟨.ref l,H,I,rfl,q1 ?_⟩⟩
  rcases Bool.or_eq_true_iff.mp c1 with z|z
  ·have e:its=[]:=by simpa using z
   subst e
   have e2:xs=[]:=List.length_eq_zero_iff.mp hl
   subst e2
   simp
  ·have e:k=1:=by simpa using z
   subst e
   simp
 ·have c1':(its.toArray.isEmpty||k==1)=false:=by simpa using c1
  by_cases c2:(decide (k<=0)||its.toArray.isEmpty)=true
  ·refine call_meets F.slot_tuple_mul ⟨_,ho,rfl⟩ F.entry_tuple_mul (F.args_tuple_mul_2 _ _) (zpp l its.toArray n dd sl k t h1 h2 c1' c2) ⟨ho,new [] ?_⟩
   have hk:k<=0:=by
    rcases Bool.or_eq_true_iff.mp c2 with z|z
    ·simpa using z
    ·rw [z] at c1';cases c1'
   have hk0:k.toNat=0:=by omega
   rw [hk0];exact .nil
  ·have c2':(decide (k<=0)||its.toArray.isEmpty)=false:=by simpa using c2
   have hk:0<k:=by
    have:=(Bool.or_eq_false_iff.mp c2').1
    simpa using this
   have hs:(its.toArray.size:Int)*k<=16777216:=by
    have e1:(its.toArray.size:Int)*k=((xs.length*k.toNat:Nat):Int):=by
     rw [List.size_toArray,<- hl,Int.natCast_mul,Int.toNat_of_nonneg (by omega)]
    rw [e1]
    have:xs.length*k.toNat<=16777216:=hz
    omega
   have hs2:(List.foldl (fun x1 x2=>x1++x2) #[] (List.replicate k.toNat its.toArray)).size<=sizeLine:=by
    rw [zqk,List.size_toArray,len_rep,Nat.mul_comm,<- hl,<- zdt];exact hz
   refine call_meets F.slot_tuple_mul ⟨_,ho,rfl⟩ F.entry_tuple_mul (F.args_tuple_mul_2 _ _) (zpq l its.toArray n dd sl k t h1 h2 c1' c2' hs hs2) ⟨ho,?_⟩
   rw [zqk]
   exact new _ (r.rep k.toNat)
theorem b_mul (m:Bool):OpR X (binaryOp .Mult) (zl0 fa X.K m .mul):=by
 intro pins s σ H x y v u Q I rx ry h
 obtain ⟨μ,M,dx,dy,hM,h1,h2,h⟩:=h
 have hi:∀i j,dx=.int i->dy=.int j->wpAny (model X.prog X.w) X.A (binaryOp .Mult v u) (EP X pins σ Q) X.xe s:=fun i j e1 e2=>by
  subst e1 e2
  have h:okE (if (-(2^64)<i/\i<2^64)\/(-(2^64)<j/\j<2^64) then .ok (.int (i*j)) M else .bad) (zbs fa X.K μ H Q):=h
  split at h
  ·next c=>exact op_mul pins s σ H x y v u Q I rx ry ⟨i,j,h1,h2,c,zbn (v:=.int (i*j)) hM h rfl⟩
  ·exact h.elim
 have ht:∀i j,dx=.tup i->dy=.int j->wpAny (model X.prog X.w) X.A (binaryOp .Mult v u) (EP X pins σ Q) X.xe s:=fun i j e1 e2=>by
  subst e1 e2
  have h:okE (if i.length*j.toNat<=sz/\-(2^63)<=j/\j<2^63 then .ok (.tup (List.replicate j.toNat i).flatten) M else .bad) (zbs fa X.K μ H Q):=h
  split at h
  ·next c=>
   have h:zbs fa X.K μ H Q (.tup (List.replicate j.toNat i).flatten) M:=h
   obtain ⟨a,vs,e1,ha,ra⟩:=id h1
   refine z37 pins s σ H x y v u Q I rx ry ⟨a,j,vs,e1,h2,ha,c.2.1,c.2.2,by rw [ra.length];exact c.1,fun z=>?_,zhl hM (ra.rep j.toNat) h⟩
   refine zbn hM h ⟨a,vs,rfl,ha,?_⟩
   have:=ra.rep j.toNat
   rw [z] at this
   exact this
  ·exact h.elim
 have hl:∀j,dy=.int j->okE (match zjk M dx with|some x=>if x.length*j.toNat<=sz/\-(2^63)<=j/\j<2^63 then zb6 m (List.replicate j.toNat x).flatten M else .bad|none=>.bad) (zbs fa X.K μ H Q)->
  wpAny (model X.prog X.w) X.A (binaryOp .Mult v u) (EP X pins σ Q) X.xe s:=fun j e1 h'=>by
  subst e1
  exact z0d (m:=m) I hM h1 h2 rx ry h'
 cases dy with
 |int j=>cases dx<;>first|exact hi _ _ rfl rfl|exact ht _ _ rfl rfl|exact hl _ rfl h
 |_=>cases dx<;>exact h.elim
def binOp:Bin->Operator
 |.add=>.Add|.sub=>.Sub|.mul=>.Mult|.fdiv=>.FloorDiv|.mod=>.Mod|.pow=>.Pow
theorem b_all (m:Bool):∀o:Bin,OpR X (binaryOp (binOp o)) (zl0 fa X.K m o)
 |.add=>b_add m|.sub=>b_sub m|.mul=>b_mul m|.fdiv=>b_fdiv m|.mod=>b_mod m|.pow=>b_pow m
end
end LD
namespace LD
open PySem PySem.Spec PyProof.Rows L2
section
variable {fa:Fa}{X:Cx}{μ:Mu}{H:Hp}{σ:L2.St}{pins:List (Addr×Obj)}{s:Shared}{M:Mem}
theorem ix_imp {r r':R2}(h:IxR X r)(i:∀x y H Q,r' x y H Q->r x y H Q):IxR X r':=fun value slice pins s σ H x y v u Q I rx ry q hs=>h value slice pins s σ H x y v u Q I rx ry (i x y H Q q) hs
def rIdx (fa:Fa)(K:PySem.W.Frag):R2:=fun x y H Q=>∃μ M dx dy d,RelM fa K μ H M/\Rep fa K μ H dx x/\Rep fa K μ H dy y/\zf6 dx dy M=some d/\zbs fa K μ H Q d M
theorem zti (n:Nat)(i:Int):LD.ixN n i=L2.ixN n i:=rfl
theorem i_all:IxR X (rIdx fa X.K):=ix_imp ix_seq fun x y H Q h=>by
 obtain ⟨μ,M,dx,dy,d,hM,h1,h2,e,q⟩:=h
 have gen:∀i,dy=.int i->((zcp M dx).bind fun ds=>(LD.ixN ds.length i).bind fun j=>ds[j]?)=some d->rIx X.K x y H Q:=fun i e0 e'=>by
  subst e0
  clear e
  have e:=e'
  clear e'
  cases e1:zcp M dx with
  |none=>rw [e1] at e;cases e
  | some ds =>
    rw [e1,Option.bind_some] at e
    obtain ⟨a,vs,rfl,hq,r⟩:=zjf hM h1 e1
    cases e2:LD.ixN ds.length i with
    |none=>rw [e2] at e;cases e
    | some j =>
      rw [e2,Option.bind_some] at e
      obtain ⟨v,hv,rv⟩:=r.get e
      have he:atI vs i=some v:=by
       unfold atI
       rw [r.length,<- zti,e2];exact hv
      rcases hq with hq|hq
      ·exact .inl ⟨a,vs,i,v,rfl,h2,hq,he,zbn hM q rv⟩
      ·exact .inr (.inl ⟨a,vs,i,v,rfl,h2,hq,he,zbn hM q rv⟩)
 have str:∀z i,dx=.str z->dy=.int i->rIx X.K x y H Q:=fun z i e1 e2=>by
  subst e1 e2
  have e:(if z.cps.size<=sz then (LD.ixN z.cps.size i).bind fun j=>(z.cps[j]?).map fun c=>D.str ⟨#[c]⟩ else none)=some d:=e
  split at e
  ·next hz=>
   cases e2:LD.ixN z.cps.size i with
   |none=>rw [e2] at e;cases e
   | some j =>
     rw [e2,Option.bind_some] at e
     cases e3:z.cps[j]? with
     |none=>rw [e3] at e;cases e
     | some c =>
       rw [e3] at e
       have e4:D.str ⟨#[c]⟩=d:=Option.some.inj e
       subst e4
       refine .inr (.inr ⟨z,i,c,h1,h2,by rw [<- zdt];exact hz,?_,zbn hM q rfl⟩)
       unfold atI
       rw [show z.cps.toList.length=z.cps.size by simp,<- zti,e2]
       simpa using e3
  ·cases e
 cases dy with
 |int i=>cases dx<;>first|exact str _ _ rfl rfl|exact gen _ rfl e
 |_=>cases dx<;>cases (show (none:Option D)=some d from e)
theorem sl_imp {r r':V->Option Int->Option Int->Hp->VK->Prop}(h:SlR X r)(i:∀x lo hi H Q,r' x lo hi H Q->r x lo hi H Q):SlR X r':=fun pins s σ H x v vl vu lo hi sl Q I rx hs pl pu q=>h pins s σ H x v vl vu lo hi sl Q I rx hs pl pu (i x lo hi H Q q)
def zod:D->Option (Option Int)
 |.non=>some none
 |.int i=>some (some i)
 |_=>none
theorem zng (n d:Nat)(x:D):LD.sIx n d x=(zod x).map (HT.sIx n d):=by
 cases x<;>rfl
theorem zsf:SlR X (fun x lo hi H Q=>∃a xs,x=.ref a/\SqT X.K H a xs/\(HT.sIx xs.length 0 lo=0/\HT.sIx xs.length xs.length hi=xs.length)/\Q (.ref a) H):=by
 intro pins s σ H x v vl vu lo hi sl Q I rx hs pl pu h
 obtain ⟨a,xs,rfl,hx,hw,q⟩:=h
 cases rx
 obtain ⟨its,r,ht,hz⟩:=I.tuple hx
 refine ⟨"tuple",_,PyProof.Rows.slot_tuple_getitem.lookup,ht.typeIs,?_⟩
 have hlen:its.toArray.size=xs.length:=by rw [List.size_toArray];exact r.length.symm
 rw [<- hlen] at hw
 obtain ⟨os,hos,hcs,hds⟩:=id hs
 have hTs:s.TypeIs (.ref sl) "slice":=⟨os,hos,hcs⟩
 unfold getItem
 try with_reducible refine tqo ?_
 first|refine tqa (tqb ?_)|skip
 refine tqa (wpAny_sequenceKey ht.typeIs (by decide) ?_)
 refine tqa (wpAny_callSpecial?_slot (name:=Str.ofString "__getitem__") ht.typeIs PyProof.Rows.slot_tuple_getitem
  (wpAny_call_entry PyProof.Rows.slot_tuple_getitem ht.typeIs entry_tuple_getitem ?_ (args_tuple_getitem _ _)))
 show wpAny _ _ (Builtin.Tuple.tupleItemsOf (.ref a) >>= _) _ _ s
 refine tqa (tupleItemsOf_ ht ?_)
 refine tqa (wpAny_typeOf hTs ?_)
 rw [if_pos (by decide)]
 refine tqa (HT.zjb hs pl pu ?_)
 have hyes:(((HT.sIx its.toArray.size 0 lo:Nat):Int)==0&&(1:Int)==1&&(HT.sIx its.toArray.size its.toArray.size hi-HT.sIx its.toArray.size 0 lo)==its.toArray.size)=true:=by
  rw [hw.1,hw.2];simp
 show wpAny _ _ (if (((HT.sIx its.toArray.size 0 lo:Nat):Int)==0&&(1:Int)==1&&(HT.sIx its.toArray.size its.toArray.size hi-HT.sIx its.toArray.size 0 lo)==its.toArray.size)=true then _ else _) _ _ s
 rw [if_pos hyes]
 refine tqa (m:=Builtin.Tuple.tupleIsExact (.ref a)) ?_
 unfold Builtin.Tuple.tupleIsExact
 refine tqa (wpAny_typeOf ht.typeIs ?_)
 refine tqb ?_
 rw [if_pos (by decide)]
 exact tqa (wpAny_rule (tqb ⟨_,rfl,tqb ⟨.ref a,H,I,rfl,q⟩⟩))
def rSlc (fa:Fa)(K:PySem.W.Frag)(m:Bool):V->Option Int->Option Int->Hp->VK->Prop:=fun x lo hi H Q=>∃μ M dx dl dh,RelM fa K μ H M/\Rep fa K μ H dx x/\zod dl=some lo/\zod dh=some hi/\okE (zew m dx dl dh M) (zbs fa K μ H Q)
theorem z3j (m:Bool):SlR X (rSlc fa X.K m):=by
 refine sl_imp (z3k.or (sl_tup.or zsf)) fun x lo hi H Q h=>?_
 obtain ⟨μ,M,dx,dl,dh,hM,h1,e1,e2,h⟩:=h
 have gen:okE (match rdD M dx with
  | some xs => match LD.sIx xs.length 0 dl, LD.sIx xs.length xs.length dh with
    |some l,some h=>zb6 m (cut xs l h) M
    |_,_=>.bad
  |none=>.bad) (zbs fa X.K μ H Q)->rSlL X.K x lo hi H Q:=fun h=>by
  cases e:rdD M dx with
  |none=>rw [e] at h;exact h.elim
  | some xs =>
    rw [e] at h
    simp only [zng,e1,e2,Option.map_some] at h
    obtain ⟨a,vs,rfl,hq,r⟩:=zcd hM h1 e
    have hl:=r.length
    obtain ⟨_,k⟩:=zgm hM ((r.drop (HT.sIx xs.length 0 lo)).take (HT.sIx xs.length xs.length hi-HT.sIx xs.length 0 lo)) h
    refine ⟨a,vs,rfl,hq,?_⟩
    unfold zmb
    rw [hl]
    exact k
 have tup:∀xs,dx=.tup xs->rSlT X.K x lo hi H Q\/∃a xs,x=.ref a/\SqT X.K H a xs/\(HT.sIx xs.length 0 lo=0/\HT.sIx xs.length xs.length hi=xs.length)/\Q (.ref a) H:=fun xs e=>by
  subst e
  have h:okE (match LD.sIx xs.length 0 dl,LD.sIx xs.length xs.length dh with
   |some l,some h=>.ok (.tup (cut xs l h)) M
   |_,_=>.bad) (zbs fa X.K μ H Q):=h
  simp only [zng,e1,e2,Option.map_some] at h
  have h:zbs fa X.K μ H Q (.tup (cut xs (HT.sIx xs.length 0 lo) (HT.sIx xs.length xs.length hi))) M:=h
  obtain ⟨a,vs,rfl,hq,r⟩:=h1
  have hl:=r.length
  by_cases hw:HT.sIx vs.length 0 lo=0/\HT.sIx vs.length vs.length hi=vs.length
  ·refine .inr ⟨a,vs,rfl,hq,hw,?_⟩
   rw [hl] at hw
   have e3:cut xs (HT.sIx xs.length 0 lo) (HT.sIx xs.length xs.length hi)=xs:=by rw [hw.1,hw.2];simp [cut]
   rw [e3] at h
   exact zbn hM h ⟨a,vs,rfl,hq,r⟩
  ·refine .inl ⟨a,vs,rfl,hq,hw,?_⟩
   have k:=zhl hM ((r.drop (HT.sIx xs.length 0 lo)).take (HT.sIx xs.length xs.length hi-HT.sIx xs.length 0 lo)) h
   unfold zmb
   rw [hl]
   exact k
 cases dx<;>first|exact .inr (tup _ rfl)|exact .inl (gen h)
def zni (fa:Fa)(K:PySem.W.Frag)(f:Blt):List V->Hp->VK->Prop:=fun vs H Q=>∃μ M ds,RelM fa K μ H M/\za7 fa K μ H ds vs/\okE (zff f ds M) (zbs fa K μ H Q)
theorem zmk {d:D}{vs:List V}{K:PySem.W.Frag}(h:za7 fa K μ H [d] vs):∃v,vs=[v]/\Rep fa K μ H d v:=by
 obtain ⟨v,r,rfl,h1,h2⟩:=h
 obtain rfl:r=[]:=h2
 exact ⟨v,rfl,h1⟩
theorem f_len:zc0 X (.builtin "len") (zni fa X.K .len):=zjr (zt2.or zt1) fun vs H Q h=>by
 obtain ⟨μ,M,ds,hM,r,h⟩:=h
 match ds,r,h with
 |[],_,h=>exact h.elim
 |d::_::_,_,h=>cases d<;>exact h.elim
 | [d], r, h =>
   obtain ⟨v,rfl,hv⟩:=zmk r
   have gen:okE (match zcp M d with|some xs=>.ok (.int xs.length) M|none=>.bad) (zbs fa X.K μ H Q)->∃p ys,[v]=[.ref p]/\(SqL X.K H p ys\/SqT X.K H p ys)/\Q (.int ys.length) H:=fun h=>by
    cases e:zcp M d with
    |none=>rw [e] at h;exact h.elim
    | some xs =>
      rw [e] at h
      obtain ⟨a,vs,rfl,hq,r⟩:=zjf hM hv e
      refine ⟨a,vs,rfl,hq,?_⟩
      rw [r.length]
      exact zbn (v:=.int xs.length) hM h rfl
   have str:∀x,d=.str x->∃z,[v]=[V.str z]/\z.length<=sizeLine/\Q (.int z.length) H:=fun x e=>by
    subst e
    have h:okE (if x.cps.size<=sz then .ok (.int x.cps.size) M else .bad) (zbs fa X.K μ H Q):=h
    split at h
    ·next c=>exact ⟨x,by rw [show v=.str x from hv],by rw [<- zdt];exact c,zbn (v:=.int x.cps.size) hM h rfl⟩
    ·exact h.elim
   cases d<;>first|exact .inr (str _ rfl)|exact .inl (gen h)
theorem z4s:zc0 X (.type "tuple") (zni fa X.K .tuple):=zjr zrd fun vs H Q h=>by
 obtain ⟨μ,M,ds,hM,r,h⟩:=h
 match ds,r,h with
 |[],_,h=>exact h.elim
 |d::_::_,_,h=>cases d<;>exact h.elim
 | [d], r, h =>
   obtain ⟨v,rfl,hv⟩:=zmk r
   have gen:okE (match rdD M d with|some xs=>.ok (.tup xs) M|none=>.bad) (zbs fa X.K μ H Q)->∃p ys,[v]=[.ref p]/\((SqL X.K H p ys/\∀l,H l=none->Q (.ref l) (upd H l (.tup ys)))\/(SqT X.K H p ys/\Q (.ref p) H)):=fun h=>by
    cases e:rdD M d with
    |none=>rw [e] at h;exact h.elim
    | some xs =>
      rw [e] at h
      obtain ⟨a,vs,rfl,hq,r⟩:=zcd hM hv e
      exact ⟨a,vs,rfl,.inl ⟨hq,zhl hM r h⟩⟩
   have tup:∀x,d=.tup x->∃p ys,[v]=[.ref p]/\((SqL X.K H p ys/\∀l,H l=none->Q (.ref l) (upd H l (.tup ys)))\/(SqT X.K H p ys/\Q (.ref p) H)):=fun x e=>by
    subst e
    obtain ⟨a,vs,rfl,hq,r⟩:=id hv
    exact ⟨a,vs,rfl,.inr ⟨hq,zbn hM h hv⟩⟩
   cases d<;>first|exact tup _ rfl|exact gen h
theorem f_list (m:Bool):zc0 X (.type "list") (zni fa X.K (.list m)):=zjr zt0 fun vs H Q h=>by
 obtain ⟨μ,M,ds,hM,r,h⟩:=h
 match ds,r,h with
 |[],_,h=>exact h.elim
 |_::_::_,_,h=>exact h.elim
 | [d], r, h =>
   obtain ⟨v,rfl,hv⟩:=zmk r
   have h:okE (match zcp M d with|some xs=>zb6 m xs M|none=>.bad) (zbs fa X.K μ H Q):=h
   cases e:zcp M d with
   |none=>rw [e] at h;exact h.elim
   | some xs =>
     rw [e] at h
     obtain ⟨a,vs,rfl,hq,r⟩:=zjf hM hv e
     obtain ⟨_,k⟩:=zgm hM r h
     exact ⟨a,vs,rfl,hq,k⟩
end
end LD
namespace LD
open PySem PySem.Spec PyProof.Rows L2
section
variable {fa:Fa}{X:Cx}{μ:Mu}{H:Hp}{σ:L2.St}{pins:List (Addr×Obj)}{s:Shared}{M:Mem}
theorem truV {d:D}{v:V}{k:Bool}(hM:RelM fa X.K μ H M)(h:Rep fa X.K μ H d v)(e:zj7 M d=some k):TruV X.K v H k:=by
 cases d with
 |non=>obtain rfl:v=.non:=h;exact (Option.some.inj e).symm
 |bl b=>obtain rfl:v=.bl b:=h;exact (Option.some.inj e).symm
 |int i=>obtain rfl:v=.int i:=h;exact (Option.some.inj e).symm
 | str x =>
   obtain rfl:v=.str x:=h
   have e:(if x.cps.size<=sz then some (x.cps.size != 0) else none)=some k:=e
   split at e
   ·next c=>
    refine ⟨by rw [<- zdt];exact c,?_⟩
    rw [<- Option.some.inj e]
    show (x.cps.size != 0)=((x.cps.size:Int) != 0)
    rw [Bool.eq_iff_iff];simp
   ·cases e
 | tup ds =>
   obtain ⟨a,vs,rfl,hq,r⟩:=h
   refine .inr (.inl ⟨vs,hq,?_⟩)
   rw [<- Option.some.inj e]
   have:=r.length
   cases vs<;>cases ds<;>simp_all
 | lst ds =>
   obtain ⟨a,vs,rfl,hq,r⟩:=zcd (ds:=ds) hM h rfl
   refine .inl ⟨vs,hq,?_⟩
   rw [<- Option.some.inj e]
   have:=r.length
   cases vs<;>cases ds<;>simp_all
 | frz ds =>
   obtain ⟨a,vs,rfl,hq,r⟩:=zcd (ds:=ds) hM h rfl
   refine .inl ⟨vs,hq,?_⟩
   rw [<- Option.some.inj e]
   have:=r.length
   cases vs<;>cases ds<;>simp_all
 | cell c =>
   have e:(M[c]?).map (fun ds=>!ds.isEmpty)=some k:=e
   cases e1:M[c]? with
   |none=>rw [e1] at e;cases e
   | some ds =>
     rw [e1] at e
     obtain ⟨a,vs,rfl,hq,r⟩:=zcd (ds:=ds) hM h e1
     refine .inl ⟨vs,hq,?_⟩
     rw [<- Option.some.inj e]
     have:=r.length
     cases vs<;>cases ds<;>simp_all
 |fn f=>cases e
 |exc y p=>cases e
theorem zlz:∀{ds:List D}{bs:List Bool}{vs:List V}{us:List Value},boolsOf ds=some bs->za7 fa X.K μ H ds vs->Vals vs us->PyProof.Rows.LSm.BoolsAre us bs:=by
 intro ds
 induction ds with
 | nil =>
   intro bs vs us e h r
   obtain rfl:vs=[]:=h
   cases r;cases e
   exact .nil
 | cons d ds ih =>
   intro bs vs us e h r
   obtain ⟨v,vr,rfl,h1,h2⟩:=h
   cases r with
   | cons r1 r2 =>
     cases d with
     | bl b =>
       have e:(boolsOf ds).map (b::·)=some bs:=e
       cases e1:boolsOf ds with
       |none=>rw [e1] at e;cases e
       | some cs =>
         rw [e1] at e
         have e2:b::cs=bs:=Option.some.inj e
         subst e2
         obtain rfl:v=.bl b:=h1
         obtain rfl:_=Value.bool b:=r1
         exact .cons b (ih e1 h2 r2)
     |_=>cases e
theorem zp0:zc0 X (.builtin "all") (fun xs H Q=>∃μ ds bs p vs,xs=[.ref p]/\X.calm=true/\SqL X.K H p vs/\za7 fa X.K μ H ds vs/\boolsOf ds=some bs/\Q (.bl (bs.all id)) H):=by
 intro pins s σ H xs us Q I r h
 obtain ⟨μ,ds,bs,p,vs,rfl,hc,hq,rl,eb,q⟩:=h
 obtain ⟨u,rfl,rx⟩:=vals1 r
 cases rx
 obtain ⟨its,rv,pl,hz⟩:=I.list hq
 have hb:=zlz eb rl rv
 have hlt:p<s.heap.objs.size:=pl.lt
 refine call_all_walk (wpAny_pyIter_list pl.isList ?_)
 refine ⟨s.heap.objs.size,[s.heap.objs.size,p],[s.heap.objs.size],its.toArray.size,_,_,fun i=>(bs[i]?).getD true,rfl,Walks.list (A:=X.A.in1) (I.ok.hd hc) _ p (tqk hlt) its.toArray,
  ⟨⟨_,tqe _ rfl,rfl,rfl⟩,pl.isList.push _⟩,fun i v s' Q' E' hP hQ=>?_,fun h' tk hk=>?_⟩
 ·obtain ⟨b,e,rfl⟩:=hb.get i v (by simpa using hP)
  simp only [e,Option.getD_some] at hQ
  exact tqp hQ
 ·have e:((List.range its.toArray.size).all fun i=>(bs[i]?).getD true)=bs.all id:=by
   rw [List.size_toArray,hb.length];exact PyProof.Rows.LSm.range_all bs
  rw [e]
  exact ⟨.bl _,H,I.kept (PyProof.Rows.LSm.kept_iter hk),rfl,q⟩
theorem z0c:∀{ds:List D}{bs:List Int}{vs:List V}{us:List Value},intsOf ds=some bs->za7 fa X.K μ H ds vs->Vals vs us->IntsAre us bs:=by
 intro ds
 induction ds with
 | nil =>
   intro bs vs us e h r
   obtain rfl:vs=[]:=h
   cases r;cases e
   exact .nil
 | cons d ds ih =>
   intro bs vs us e h r
   obtain ⟨v,vr,rfl,h1,h2⟩:=h
   cases r with
   | cons r1 r2 =>
     cases d with
     | int b =>
       have e:(intsOf ds).map (b::·)=some bs:=e
       cases e1:intsOf ds with
       |none=>rw [e1] at e;cases e
       | some cs =>
         rw [e1] at e
         have e2:b::cs=bs:=Option.some.inj e
         subst e2
         obtain rfl:v=.int b:=h1
         obtain ⟨t,rfl⟩:=r1
         exact .cons b t (ih e1 h2 r2)
     |_=>cases e
theorem zre:zc0 X (.builtin "sum") (fun xs H Q=>∃μ ds bs p vs,xs=[.ref p]/\X.calm=true/\SqL X.K H p vs/\za7 fa X.K μ H ds vs/\intsOf ds=some bs/\Q (.int bs.sum) H):=by
 intro pins s σ H xs us Q I r h
 obtain ⟨μ,ds,ns,p,vs,rfl,hc,hq,rl,eb,q⟩:=h
 obtain ⟨u,rfl,rx⟩:=vals1 r
 cases rx
 obtain ⟨its,rv,pl,hz⟩:=I.list hq
 have hi:=z0c eb rl rv
 obtain ⟨xs,hx⟩:=hi.allInts.items
 have hl':s.heap.IsList p (intItems xs):=hx ▸ pl.isList
 refine sum_intListG (I.ok.hd hc) hl' fun h' tk t' hk=>?_
 have e1:ns=xs.toList.map (·.1):=by
  rw [<- nums_intItems,<- hx]
  exact (show numsOf its.toArray.toList=ns from hi.numsOf).symm
 have e2:preSum (numAt xs) xs.size=ns.sum:=by
  rw [preSum_eq,List.take_of_length_le (by simp),e1]
 rw [e2]
 exact ⟨.int _,H,I.kept hk,⟨t',rfl⟩,q⟩
theorem f_all (hc:X.calm=true):zc0 X (.builtin "all") (zni fa X.K .all):=zjr (zp0 (fa:=fa)) fun vs H Q h=>by
 obtain ⟨μ,M,ds,hM,r,h⟩:=h
 match ds,r,h with
 |[],_,h=>exact h.elim
 |d::_::_,_,h=>exact h.elim
 | [d], r, h =>
   obtain ⟨v,rfl,hv⟩:=zmk r
   have h:okE (match rdD M d with|some xs=>(match boolsOf xs with|some bs=>.ok (.bl (bs.all id)) M|none=>.bad)|none=>.bad) (zbs fa X.K μ H Q):=h
   cases e:rdD M d with
   |none=>rw [e] at h;exact h.elim
   | some xs =>
     rw [e] at h
     simp only at h
     cases e2:boolsOf xs with
     |none=>rw [e2] at h;exact h.elim
     | some bs =>
       rw [e2] at h
       obtain ⟨a,vs,rfl,hq,r⟩:=zcd hM hv e
       exact ⟨μ,xs,bs,a,vs,rfl,hc,hq,r,e2,zbn (v:=.bl (bs.all id)) hM h rfl⟩
theorem f_sum (hc:X.calm=true):zc0 X (.builtin "sum") (zni fa X.K .sum):=zjr (zre (fa:=fa)) fun vs H Q h=>by
 obtain ⟨μ,M,ds,hM,r,h⟩:=h
 match ds,r,h with
 |[],_,h=>exact h.elim
 |d::_::_,_,h=>exact h.elim
 | [d], r, h =>
   obtain ⟨v,rfl,hv⟩:=zmk r
   have h:okE (match rdD M d with|some xs=>(match intsOf xs with|some bs=>.ok (.int bs.sum) M|none=>.bad)|none=>.bad) (zbs fa X.K μ H Q):=h
   cases e:rdD M d with
   |none=>rw [e] at h;exact h.elim
   | some xs =>
     rw [e] at h
     simp only at h
     cases e2:intsOf xs with
     |none=>rw [e2] at h;exact h.elim
     | some bs =>
       rw [e2] at h
       obtain ⟨a,vs,rfl,hq,r⟩:=zcd hM hv e
       exact ⟨μ,xs,bs,a,vs,rfl,hc,hq,r,e2,zbn (v:=.int bs.sum) hM h rfl⟩
def tyName:Ty->String
 |.int=>"int" | .bool=>"bool" | .str=>"str" | .tuple=>"tuple" | .list=>"list" | .own _=>""
def tyD:D->String
 |.non=>"NoneType" | .bl _=>"bool" | .int _=>"int" | .str _=>"str" | .tup _=>"tuple" | _=>"list"
theorem ty_of (t:Ty)(d:D)(b:Bool)(ht:∀c,t≠.own c)(e:zca t d=some b):PySem.W.kitOne X.K (.type (tyD d)) (.type (tyName t))=some b:=by
 cases t with
 |own c=>exact absurd rfl (ht c)
 |_=>cases d<;>first|(cases (show (none:Option Bool)=some b from e))|(have e':=Option.some.inj e;subst e';(first|rfl|decide +kernel))
theorem zzr {d:D}{v:V}{b:Bool}{t:Ty}(hM:RelM fa X.K μ H M)(h:Rep fa X.K μ H d v)(e:zca t d=some b)(I:Inv X pins σ H s){u c:Value}(r:RelV v u){Q:Value->Shared->Prop}
 (ek:PySem.W.kitOne X.K (.type (tyD d)) c=some b) (q:∀tk,Q (.bool b) {s with toks:=tk}):wpAny (model X.prog X.w) X.A (call (.builtin "isinstance") [u,c]) Q X.xe s:=by
 cases d with
 |non=>obtain rfl:v=.non:=h;exact zj0 I r .non ek q
 |bl x=>obtain rfl:v=.bl x:=h;exact zj0 I r (.bl x) ek q
 |int x=>obtain rfl:v=.int x:=h;exact zj0 I r (.int x) ek q
 |str x=>obtain rfl:v=.str x:=h;exact zj0 I r (.str x) ek q
 | tup ds =>
   obtain ⟨a,vs,rfl,hq,_⟩:=h
   obtain rfl:u=Value.ref a:=r
   obtain ⟨its,rv,⟨o,h1,h2,_⟩,_⟩:=I.tuple hq
   exact PySem.W.kia_one PySem.W.kitx_tuple I.kIn ⟨o,h1,h2⟩ ek (fun z=>nomatch z) q
 | lst ds =>
   obtain ⟨a,vs,rfl,hq,_⟩:=zcd (ds:=ds) hM h rfl
   obtain rfl:u=Value.ref a:=r
   obtain ⟨its,rv,⟨o,n,h1,h2,_⟩,_⟩:=I.list hq
   exact PySem.W.kia_one PySem.W.kitx_list I.kIn ⟨o,h1,h2⟩ ek (fun z=>nomatch z) q
 | frz ds =>
   obtain ⟨a,vs,rfl,hq,_⟩:=zcd (ds:=ds) hM h rfl
   obtain rfl:u=Value.ref a:=r
   obtain ⟨its,rv,⟨o,n,h1,h2,_⟩,_⟩:=I.list hq
   exact PySem.W.kia_one PySem.W.kitx_list I.kIn ⟨o,h1,h2⟩ ek (fun z=>nomatch z) q
 | cell k =>
   obtain ⟨a,rfl,hk⟩:=h
   obtain ⟨ds,vs,_,hq,_⟩:=hM.mu_lt hk
   obtain rfl:u=Value.ref a:=r
   obtain ⟨its,rv,⟨o,n,h1,h2,_⟩,_⟩:=I.list (SqL.of hq)
   exact PySem.W.kia_one PySem.W.kitx_list I.kIn ⟨o,h1,h2⟩ ek (fun z=>nomatch z) q
 |fn f=>cases e
 |exc y p=>cases e
def rInst (fa:Fa)(K:PySem.W.Frag)(t:Ty):List V->Hp->VK->Prop:=fun vs H Q=>∃μ M d v b,vs=[v,.ty (tyName t)]/\RelM fa K μ H M/\Rep fa K μ H d v/\zca t d=some b/\Q (.bl b) H
theorem f_inst (t:Ty)(ht:∀c,t≠.own c):zc0 X (.builtin "isinstance") (rInst fa X.K t):=by
 intro pins s σ H xs us Q I r h
 obtain ⟨μ,M,d,v,b,rfl,hM,hv,e,q⟩:=h
 obtain ⟨u,w,rfl,r1,r2⟩:=vals2 r
 obtain rfl:w=Value.type (tyName t):=r2
 exact zzr hM hv e I r1 (ty_of t d b ht e) fun tk=>⟨.bl b,H,I.tok _,rfl,q⟩
end
end LD
namespace LD
open PySem PySem.Spec PyProof.Rows L2
section
variable {fa:Fa}{X:Cx}
abbrev DE (fa:Fa)(X:Cx)(e:Expr)(g:Env->Mem->Res D):Prop:=PE X e (tE fa X.K g)
abbrev DT (fa:Fa)(X:Cx)(e:Expr)(g:Env->Mem->Res Bool):Prop:=PT X e (tT fa X.K g)
abbrev DW (fa:Fa)(X:Cx)(e:Expr)(g:Env->Mem->Res Bool):Prop:=PW X e (tT fa X.K g)
abbrev DA (fa:Fa)(X:Cx)(es:List Expr)(g:Env->Mem->Res (List D)):Prop:=PA X es (tA fa X.K g)
abbrev DS (fa:Fa)(X:Cx)(st:Stmt)(g:Env->Mem->Res Fl):Prop:=PS X st (tF fa X g)
abbrev DSs (fa:Fa)(X:Cx)(st:List Stmt)(g:Env->Mem->Res Fl):Prop:=PSs X st (tF fa X g)
variable {a b d:Expr}{ga gb gd:Env->Mem->Res D}{pos:Pos}
theorem d_var {i:Nat}{x:Str}(hN:X.N[i]?=some x)(hv:Vis X.env.scope x)(hd:(x==("__debug__":Str))=false)(hcd:(x==("__classdict__":Str))=false) :
 DE fa X (.Name x pos) (fun Z M=>ofO M (Z[i]?.getD none)):=zch (zn8 hN hv hd hcd) fun σ H Q ⟨μ,Z,M,hE,hM,h⟩=>by
 obtain ⟨d,e,w⟩:=zml h
 have e':Z[i]?=some (some d):=by
  cases q:Z[i]? with
  |none=>rw [q] at e;cases e
  |some o=>rw [q] at e;simp at e;rw [e]
 obtain ⟨v,h1,h2⟩:=hE.at' i d e'
 exact ⟨v,h1,zbn hM w h2⟩
theorem zkt {e:Expr}{dc:D}{v:V}(h:PE X e (tC v))(r:∀μ H,Rep fa X.K μ H dc v):DE fa X e (fun _ M=>.ok dc M):=zch h fun σ H Q ⟨μ,Z,M,hE,hM,h⟩=>zbn hM h (r μ H)
theorem d_int {i:Int}{j:Nat}:DE fa X (.Constant (.int i) j pos) (fun _ M=>.ok (.int i) M):=zkt (v:=.int i) zxz fun _ _=>rfl
theorem d_bl {i:Bool}{j:Nat}:DE fa X (.Constant (.bool i) j pos) (fun _ M=>.ok (.bl i) M):=zkt (v:=.bl i) zvr fun _ _=>rfl
theorem d_str {i:Str}{j:Nat}:DE fa X (.Constant (.str i) j pos) (fun _ M=>.ok (.str i) M):=zkt (v:=.str i) pe_str fun _ _=>rfl
theorem d_non {j:Nat}:DE fa X (.Constant .none j pos) (fun _ M=>.ok .non M):=zkt (v:=.non) pe_non fun _ _=>rfl
theorem t2 {μ:Mu}{H:Hp}{σ:L2.St}{Z:Env}{M:Mem}{β:Type}{f:D->D->Mem->Res β}{P:β->Mem->Prop}{R:V->V->Hp->Prop}(hE:zbu fa X.K μ H σ Z)(hM:RelM fa X.K μ H M)
 (h:okE ((ga Z M).bind fun x M=>(gb Z M).bind fun y M=>f x y M) P)
 (k:∀x y M2 v u H2 μ2,Ext μ H μ2 H2->zbu fa X.K μ2 H2 σ Z->RelM fa X.K μ2 H2 M2->Rep fa X.K μ2 H2 x v->Rep fa X.K μ2 H2 y u->okE (f x y M2) P->R v u H2) :
 tE fa X.K ga σ H fun v H1=>tE fa X.K gb σ H1 fun u H2=>R v u H2:=
 t1 hE hM h fun x M1 v H1 μ1 x1 hE1 hM1 r1 h1=>t1 hE1 hM1 h1 fun y M2 u H2 μ2 x2 hE2 hM2 r2 h2=>k x y M2 v u H2 μ2 (x1.trans x2) hE2 hM2 (r1.ext x2) r2 h2
theorem d_bin (m:Bool)(o:Bin)(ha:DE fa X a ga)(hb:DE fa X b gb):DE fa X (.BinOp a (binOp o) b pos) (fun Z M=>(ga Z M).bind fun x M=>(gb Z M).bind fun y M=>zei m o x y M):=
 zch (pe_op (b_all m o) ha hb) fun σ H Q ⟨μ,Z,M,hE,hM,h⟩=>t2 hE hM h fun x y M2 v u H2 μ2 x2 hE2 hM2 r1 r2 h2=>⟨μ2,M2,x,y,hM2,r1,r2,okW h2 x2⟩
theorem zol {r:Option Bool}{M:Mem}{P:D->Mem->Prop}(h:okE ((ofO M r).bind fun b M=>.ok (.bl b) M) P):∃b,r=some b/\P (.bl b) M:=by
 obtain ⟨b,M1,e,q⟩:=zbg h
 cases r with
 |none=>cases e
 |some b'=>cases e;exact ⟨_,rfl,q⟩
theorem d_cmp (hu:Rm X)(o:Cmp)(ha:DE fa X a ga)(hb:DE fa X b gb)(hm:behindInMarks (zc8 o) b=false) :
 DE fa X (.Compare a [zc8 o] [b] pos) (fun Z M=>(ga Z M).bind fun x M=>(gb Z M).bind fun y M=>(ofO M (zb2 o x y M)).bind fun b M=>.ok (.bl b) M):=
 zch (z35 (zmz hu o) ha hb hm) fun σ H Q ⟨μ,Z,M,hE,hM,h⟩=>t2 hE hM h fun x y M2 v u H2 μ2 x2 hE2 hM2 r1 r2 h2=>by
  obtain ⟨b,e,q⟩:=zol h2
  exact ⟨μ2,M2,x,y,b,hM2,r1,r2,e,zbn (v:=.bl b) hM2 (q.ext x2) rfl⟩
theorem dt_cmp (hu:Rm X)(o:Cmp)(ha:DE fa X a ga)(hb:DE fa X b gb)(hm:behindInMarks (zc8 o) b=false) :
 DT fa X (.Compare a [zc8 o] [b] pos) (fun Z M=>((ga Z M).bind fun x M=>(gb Z M).bind fun y M=>(ofO M (zb2 o x y M)).bind fun b M=>.ok (.bl b) M).bind fun x M=>ofO M (zj7 M x)):=
 zl2 (zuu (zmz hu o) ha hb hm) fun σ H Q ⟨μ,Z,M,hE,hM,h⟩=>by
  obtain ⟨z,M3,e,q⟩:=zbg h
  have h':okE ((ga Z M).bind fun x M=>(gb Z M).bind fun y M=>(ofO M (zb2 o x y M)).bind fun b M=>.ok (.bl b) M) (fun d M=>d=z/\M=M3):=by rw [e];exact ⟨rfl,rfl⟩
  refine t2 hE hM h' fun x y M2 v u H2 μ2 x2 hE2 hM2 r1 r2 h2=>?_
  obtain ⟨b,e1,e2,e3⟩:=zol h2
  subst e2 e3
  exact ⟨μ2,M2,x,y,b,hM2,r1,r2,e1,b,rfl,q H2 μ2 x2 hM2⟩
theorem z3a {g:Env->Mem->Res D}{σ:L2.St}{H:Hp}{Q:Bool->Hp->Prop}(hb:∀Z M x M',g Z M=.ok x M'->∃k,x=.bl k)(h:tT fa X.K (fun Z M=>(g Z M).bind fun x M=>ofO M (zj7 M x)) σ H Q) :
 tE fa X.K g σ H (fun x H'=>∃k,x=.bl k/\Q k H'):=by
 obtain ⟨μ,Z,M,hE,hM,h⟩:=h
 obtain ⟨x,M1,e,q⟩:=zbg h
 obtain ⟨k,rfl⟩:=hb Z M x M1 e
 refine ⟨μ,Z,M,hE,hM,?_⟩
 rw [e]
 intro v H1 μ1 x1 m1 r1
 obtain rfl:v=.bl k:=r1
 exact ⟨k,rfl,q H1 μ1 x1 m1⟩
theorem i_chn {o o':Cmp}{gc:Env->Mem->Res D}(σ:L2.St)(H:Hp)(Q:VK):tE fa X.K (fun Z M=>(ga Z M).bind fun x M=>(gb Z M).bind fun y M=>(ofO M (zb2 o x y M)).bind fun k M=>
 if k then (gc Z M).bind fun z M=>(ofO M (zb2 o' y z M)).bind fun b M=>.ok (.bl b) M else .ok (.bl false) M) σ H Q->zr5 (zg6 fa X.K o) (zg6 fa X.K o') (tE fa X.K ga) (tE fa X.K gb) (tE fa X.K gc) σ H Q:=fun ⟨μ,Z,M,hE,hM,h⟩=>by
 refine t2 hE hM h fun x y M2 v u H2 μ2 x2 hE2 hM2 r1 r2 h2=>?_
 obtain ⟨k,M3,e,q⟩:=zbg h2
 cases ec:zb2 o x y M2 with
 |none=>rw [ec] at e;cases e
 | some k' =>
   rw [ec] at e
   cases e
   refine ⟨μ2,_,x,y,k,hM2,r1,r2,ec,k,rfl,?_⟩
   cases k with
   |false=>exact zbn (v:=.bl false) hM2 (zbs.ext q x2) rfl
   | true =>
     refine t1 hE2 hM2 q fun z M4 w H4 μ4 x4 hE4 hM4 r4 h4=>?_
     obtain ⟨b,e4,q4⟩:=zol h4
     exact ⟨μ4,M4,y,z,b,hM4,r2.ext x4,r4,e4,zbn (v:=.bl b) hM4 (q4.ext (x2.trans x4)) rfl⟩
theorem d_chn (hu:Rm X)(o o':Cmp){gc:Env->Mem->Res D}(ha:DE fa X a ga)(hb:DE fa X b gb)(hc:DE fa X d gc)(hm:lastMarks [zc8 o,zc8 o'] [b,d]=false) :
 DE fa X (.Compare a [zc8 o,zc8 o'] [b,d] pos) (fun Z M=>(ga Z M).bind fun x M=>(gb Z M).bind fun y M=>(ofO M (zb2 o x y M)).bind fun k M=>
  if k then (gc Z M).bind fun z M=>(ofO M (zb2 o' y z M)).bind fun b M=>.ok (.bl b) M else .ok (.bl false) M):=zch (z0l (zmz hu o) (zmz hu o') ha hb hc hm) i_chn
theorem z0p {r:Option Bool}{M M':Mem}{x:D}(h:((ofO M r).bind fun b M=>Res.ok (.bl b) M)=.ok x M'):∃k,x=.bl k:=by
 cases r with
 |none=>cases h
 |some b=>cases h;exact ⟨b,rfl⟩
theorem ze2 {α β:Type}{r:Res α}{f:α->Mem->Res β}{x:β}{M:Mem}(h:r.bind f=.ok x M):∃a M1,r=.ok a M1/\f a M1=.ok x M:=by
 cases r with
 |ok a M1=>exact ⟨a,M1,rfl,h⟩
 |err=>cases h
 |bad=>cases h
theorem dt_chn (hu:Rm X)(o o':Cmp){gc:Env->Mem->Res D}(ha:DE fa X a ga)(hb:DE fa X b gb)(hc:DE fa X d gc)(hm:lastMarks [zc8 o,zc8 o'] [b,d]=false) :
 DT fa X (.Compare a [zc8 o,zc8 o'] [b,d] pos) (fun Z M=>((ga Z M).bind fun x M=>(gb Z M).bind fun y M=>(ofO M (zb2 o x y M)).bind fun k M=>
  if k then (gc Z M).bind fun z M=>(ofO M (zb2 o' y z M)).bind fun b M=>.ok (.bl b) M else .ok (.bl false) M).bind fun x M=>ofO M (zj7 M x)):=
 zl2 (z0h (zmz hu o) (zmz hu o') ha hb hc hm) fun σ H Q h=>i_chn σ H _ (z3a (fun Z M x M' e=>by
  obtain ⟨x1,M1,_,e⟩:=ze2 e
  obtain ⟨x2,M2,_,e⟩:=ze2 e
  obtain ⟨k,M3,_,e⟩:=ze2 e
  cases k with
  |false=>cases e;exact ⟨_,rfl⟩
  | true =>
    obtain ⟨x4,M4,_,e⟩:=ze2 e
    exact z0p e) h)
theorem d_neg (ha:DE fa X a ga):DE fa X (.UnaryOp .USub a pos) (fun Z M=>(ga Z M).bind fun x M=>match x with|.int i=>.ok (.int (-i)) M|_=>.bad):=
 zch (pe_un zw9 ha) fun σ H Q ⟨μ,Z,M,hE,hM,h⟩=>t1 hE hM h fun x M1 v H1 μ1 x1 hE1 hM1 r1 h1=>by
  cases x with
  |int i=>exact ⟨i,r1,zbn (v:=.int (-i)) hM1 (zbs.ext h1 x1) rfl⟩
  |_=>exact h1.elim
theorem d_and {rest:List Expr}(ha:DE fa X a ga)(hb:DE fa X (.BoolOp .And (b::rest) pos) gb):DE fa X (.BoolOp .And (a::b::rest) pos) (fun Z M=>(ga Z M).bind fun x M=>match x with
 |.bl true=>gb Z M
 |.bl false=>.ok (.bl false) M
 |_=>.bad):=
 zch (pe_and ha hb) fun σ H Q ⟨μ,Z,M,hE,hM,h⟩=>t1 hE hM h fun x M1 v H1 μ1 x1 hE1 hM1 r1 h1=>by
  cases x with
  | bl k =>
    refine ⟨k,r1,?_⟩
    cases k with
    |true=>exact ⟨μ1,Z,M1,hE1,hM1,okW h1 x1⟩
    |false=>exact zbn (v:=.bl false) hM1 (zbs.ext h1 x1) rfl
  |_=>exact h1.elim
theorem d_one {op:PySem.BoolOp}(ha:DE fa X a ga):DE fa X (.BoolOp op [a] pos) ga:=pe_one ha
theorem d_not (ha:DE fa X a ga):DE fa X (.UnaryOp .Not a pos) (fun Z M=>(ga Z M).bind fun x M=>match x with|.bl k=>.ok (.bl (!k)) M|_=>.bad):=
 zch (pe_not ha) fun σ H Q ⟨μ,Z,M,hE,hM,h⟩=>t1 hE hM h fun x M1 v H1 μ1 x1 hE1 hM1 r1 h1=>by
  cases x with
  |bl k=>exact ⟨k,r1,zbn (v:=.bl (!k)) hM1 (zbs.ext h1 x1) rfl⟩
  |_=>exact h1.elim
variable {ta tb:Env->Mem->Res Bool}
theorem z40 (ha:DT fa X a ta):DW fa X (.BoolOp .And [a] pos) ta:=z3w ha
theorem dw_or1 (ha:DT fa X a ta):DW fa X (.BoolOp .Or [a] pos) ta:=pw_or1 ha
theorem okT {b':Res Bool}{μ μ':Mu}{H H':Hp}{Q:Bool->Hp->Prop}(x:Ext μ H μ' H')(h:okE b' fun b M'=>∀H'' μ'',Ext μ H μ'' H''->RelM fa X.K μ'' H'' M'->Q b H''):okE b' fun b M'=>∀H'' μ'',Ext μ' H' μ'' H''->RelM fa X.K μ'' H'' M'->Q b H'':=
 zbo h fun b M q H'' μ'' y m=>q H'' μ'' (x.trans y) m
theorem dw_and {rest:List Expr}(ha:DT fa X a ta)(hb:DW fa X (.BoolOp .And (b::rest) pos) tb):DW fa X (.BoolOp .And (a::b::rest) pos) (fun Z M=>(ta Z M).bind fun k M=>if k then tb Z M else .ok false M):=
 zxv (pw_and ha hb) fun σ H Q ⟨μ,Z,M,hE,hM,h⟩=>tT1 hE hM h fun k M1 H1 μ1 x1 hE1 hM1 h1=>by
  cases k with
  |true=>exact ⟨μ1,Z,M1,hE1,hM1,okT x1 h1⟩
  |false=>exact h1 H1 μ1 x1 hM1
theorem dw_or {rest:List Expr}(ha:DT fa X a ta)(hb:DW fa X (.BoolOp .Or (b::rest) pos) tb):DW fa X (.BoolOp .Or (a::b::rest) pos) (fun Z M=>(ta Z M).bind fun k M=>if k then .ok true M else tb Z M):=
 zxv (pw_or ha hb) fun σ H Q ⟨μ,Z,M,hE,hM,h⟩=>tT1 hE hM h fun k M1 H1 μ1 x1 hE1 hM1 h1=>by
  cases k with
  |true=>exact h1 H1 μ1 x1 hM1
  |false=>exact ⟨μ1,Z,M1,hE1,hM1,okT x1 h1⟩
theorem dt_not (ha:DT fa X a ta):DT fa X (.UnaryOp .Not a pos) (fun Z M=>(ta Z M).bind fun k M=>.ok (!k) M):=
 zl2 (pt_not ha) fun σ H Q ⟨μ,Z,M,hE,hM,h⟩=>tT1 hE hM h fun k M1 H1 μ1 x1 hE1 hM1 h1=>h1 H1 μ1 x1 hM1
theorem z10 (ha:DE fa X a ga)(he:∀whole,isTrue a X.env whole=(do let v <- whole;standAt a.pos;holding [v] (truthy v))):DT fa X a (fun Z M=>(ga Z M).bind fun x M=>ofO M (zj7 M x)):=
 zl2 (z0g ha he) fun σ H Q ⟨μ,Z,M,hE,hM,h⟩=>t1 hE hM h fun x M1 v H1 μ1 x1 hE1 hM1 r1 h1=>by
  obtain ⟨k,e,q⟩:=zml h1
  exact ⟨k,truV hM1 r1 e,q H1 μ1 x1 hM1⟩
theorem d_ite {c:Expr}{gc:Env->Mem->Res Bool}(hc:DT fa X c gc)(ha:DE fa X a ga)(hb:DE fa X b gb):DE fa X (.IfExp c a b pos) (fun Z M=>(gc Z M).bind fun k M=>if k then ga Z M else gb Z M):=
 zch (z0k hc ha hb) fun σ H Q ⟨μ,Z,M,hE,hM,h⟩=>tT1 hE hM h fun k M1 H1 μ1 x1 hE1 hM1 h1=>by
  cases k with
  |true=>exact ⟨μ1,Z,M1,hE1,hM1,okW h1 x1⟩
  |false=>exact ⟨μ1,Z,M1,hE1,hM1,okW h1 x1⟩
theorem d_idx (ha:DE fa X a ga)(hb:DE fa X b gb)(hs:zkv b):DE fa X (.Subscript a b pos) (fun Z M=>(ga Z M).bind fun x M=>(gb Z M).bind fun y M=>ofO M (zf6 x y M)):=
 zch (pe_ix i_all ha hb hs) fun σ H Q ⟨μ,Z,M,hE,hM,h⟩=>t2 hE hM h fun x y M2 v u H2 μ2 x2 hE2 hM2 r1 r2 h2=>by
  obtain ⟨d,e,q⟩:=zml h2
  exact ⟨μ2,M2,x,y,d,hM2,r1,r2,e,q.ext x2⟩
def DO (fa:Fa)(X:Cx)(e:Option Expr)(hp:Bool)(g:Env->Mem->Res D):Prop:=PO X e fun σ H Q=>∃μ Z M,zbu fa X.K μ H σ Z/\RelM fa X.K μ H M/\okE (g Z M) fun d M'=>∃o,zci hp d=true/\zod d=some o/\∀H' μ',Ext μ H μ' H'->RelM fa X.K μ' H' M'->Q o H'
theorem z43:DO fa X none false (fun _ M=>.ok .non M):=fun pins s σ H Q I ⟨μ,Z,M,hE,hM,o,_,e,k⟩=>by
 cases e
 exact z32 pins s σ H Q I (k H μ .refl hM)
theorem z42 (ha:DE fa X a ga):DO fa X (some a) true ga:=fun pins s σ H Q I ⟨μ,Z,M,hE,hM,h⟩=>z31 ha pins s σ H Q I ⟨μ,Z,M,hE,hM,zbo h fun d M' ⟨o,p,e,k⟩ v H' μ' x m r=>by
 cases d with
 |int i=>cases e;exact ⟨i,r,k H' μ' x m⟩
 |_=>cases p⟩
theorem part_of {hp:Bool}{d:D}(h:zci hp d=true):∃o,zod d=some o:=by
 cases hp<;>cases d<;>first|exact ⟨_,rfl⟩|cases h
theorem d_slc (m hl hh:Bool){lo hi:Option Expr}{gl gh:Env->Mem->Res D}{p2:Pos}(ha:DE fa X a ga)(hlo:DO fa X lo hl gl)(hhi:DO fa X hi hh gh):DE fa X (.Subscript a (.Slice lo hi none p2) pos)
 (fun Z M=>(ga Z M).bind fun x M=>(gl Z M).bind fun l M=>(gh Z M).bind fun h M=>if zci hl l&&zci hh h then zew m x l h M else .bad):=
 zch (zsr (z3j (fa:=fa) m) ha hlo hhi) fun σ H Q ⟨μ,Z,M,hE,hM,h⟩=>t1 hE hM h fun x M1 v H1 μ1 x1 hE1 hM1 r1 h1=>by
  obtain ⟨l,M2,e2,h2⟩:=zbg h1
  obtain ⟨u,M3,e3,h3⟩:=zbg h2
  split at h3
  ·next c=>
   rw [Bool.and_eq_true] at c
   obtain ⟨ol,el⟩:=part_of c.1
   obtain ⟨ou,eu⟩:=part_of c.2
   refine ⟨μ1,Z,M1,hE1,hM1,?_⟩
   rw [e2]
   refine ⟨ol,c.1,el,fun H2 μ2 x2 hM2=>⟨μ2,Z,M2,hE1.ext x2,hM2,?_⟩⟩
   rw [e3]
   exact ⟨ou,c.2,eu,fun H3 μ3 x3 hM3=>⟨μ3,M3,x,l,u,hM3,(r1.ext x2).ext x3,el,eu,okW h3 ((x1.trans x2).trans x3)⟩⟩
  ·exact h3.elim
theorem da_nil:DA fa X [] (fun _ M=>.ok [] M):=zx3 zd9 fun σ H Q ⟨μ,Z,M,hE,hM,h⟩=>h [] H μ .refl hM rfl
theorem z5b {es:List Expr}{gs:Env->Mem->Res (List D)}(ha:DE fa X a ga)(hs:DA fa X es gs)(h0:starEach (a::es) X.env=(false,eval a X.env)::starEach es X.env) :
 DA fa X (a::es) (fun Z M=>(ga Z M).bind fun x M=>(gs Z M).bind fun xs M=>.ok (x::xs) M):=
 zx3 (zcq ha hs h0) fun σ H Q ⟨μ,Z,M,hE,hM,h⟩=>t1 hE hM h fun x M1 v H1 μ1 x1 hE1 hM1 r1 h1=>tA1 hE1 hM1 h1 fun xs M2 vs H2 μ2 x2 hE2 hM2 r2 h2=>h2 (v::vs) H2 μ2 (x1.trans x2) hM2 ⟨v,vs,rfl,r1.ext x2,r2⟩
theorem d_tup {es:List Expr}{gs:Env->Mem->Res (List D)}{k:Nat}(hs:DA fa X es gs):DE fa X (.Tuple es k pos) (fun Z M=>(gs Z M).bind zle):=
 zch (pe_tup hs) fun σ H Q ⟨μ,Z,M,hE,hM,h⟩=>tA1 hE hM h fun xs M1 vs H1 μ1 x1 hE1 hM1 r1 h1=>by
  unfold zle at h1
  split at h1
  ·next c=>exact ⟨by rw [r1.length,<- zdt];exact c,zhl hM1 r1 (zbs.ext h1 x1)⟩
  ·exact h1.elim
theorem d_lst (m:Bool){es:List Expr}{gs:Env->Mem->Res (List D)}(hs:DA fa X es gs):DE fa X (.List es pos) (fun Z M=>(gs Z M).bind (zb6 m)):=
 zch (pe_lst hs) fun σ H Q ⟨μ,Z,M,hE,hM,h⟩=>tA1 hE hM h fun xs M1 vs H1 μ1 x1 hE1 hM1 r1 h1=>by
  obtain ⟨c,k⟩:=zgm hM1 r1 (okW h1 x1)
  exact ⟨by rw [r1.length,<- zdt];exact c,k⟩
end
end LD
namespace LD
open PySem PySem.Spec PyProof.Rows L2
theorem zma (o:Obj)(f:Array Value->Array Value):(o.mapFields f).dict=o.dict:=by
 obtain ⟨c,d,dt,sl⟩:=o
 cases dt<;>rfl
section
variable {P:Program}{w:World}{M:Model}{A:Around}{E:Value->Shared->Prop}{base:Heap}{env:PySem.Env}{outer:List PySem.Env}{L a C:Addr}{dx:Option Addr}{New:Addr->Prop}{H:Hp}{s:Shared}{Q:Unit->Shared->Prop}
theorem zum {oe:Obj}{vs:Array Value}{head:Value}{had:Bool}(hfr:A.frames=some (env::outer))(hl:s.heap.FunFrames base (env::outer))(hf:env.frame=some L)
 (he:s.heap.get? a=some oe) (hd:oe.data=.fields vs) (hsz:1<vs.size)
 (h:∀h' T oT ts,(∀b o,b∉frs (env::outer)->b≠a->s.heap.get? b=some o->h'.get? b=some o)->(∀b o,b≠a->s.heap.get? b=some o->∃sl,h'.get? b=some {o with slots:=sl})->s.heap.objs.size<=T->T≠a->
  h'.get? a=some (oe.mapFields (·.setIfInBounds 1 (.ref T)))->h'.get? T=some oT->oT.data=.fields ts->ts[3]?=some .none->Q () {s with heap:=h'}) :
 wpAny M A (do let f <- frameOf env;let pl <- entryPlaceOf L had;let b <- EntryCells.newEntry head f .none (rawInt L) .none pl;setField (.ref a) 1 b) (fun _ s'=>wpAny M A (setFlight (.ref a) none) Q E s') E s:=by
 have hene:a∉frs (env::outer):=fun hm=>by
  obtain ⟨_,o,ho,hnf⟩:=hl.mem hm
  rw [he] at ho;cases ho;exact hnf vs hd
 refine tqa (wpAny_frameOf_fun hfr hl hf fun h₁ hs₁=>?_)
 refine tqa (wpAny_entryPlaceOf fun pl hpl=>?_)
 unfold EntryCells.newEntry newFields
 refine tqa (wpAny_newObj_type ?_ (hpl.sizeOk5 _ _ _ _ _))
 have he₁:h₁.get? a=some oe:=(hs₁.2.1 a hene).trans he
 generalize ho:({cls:=.type "traceback",dict:=none,data:=.fields ([head,.ref L,.none,rawInt L,.none]++(if pl.isEmpty then List.replicate 6 Value.none else pl)).toArray}:Obj)=o
 have hod:o.data=.fields ([head,.ref L,.none,rawInt L,.none]++(if pl.isEmpty then List.replicate 6 Value.none else pl)).toArray:=by rw [<- ho]
 have he₂:=tqc (h:=h₁) o he₁
 refine wpAny_setField he₂ hd hsz ?_
 have hTe:h₁.objs.size≠a:=Nat.ne_of_gt (tqd he₁)
 have hd₃:=Obj.data_mapFields hd (·.setIfInBounds 1 (Value.ref h₁.objs.size))
 have he₃:=tqm (Obj.mapFields (·.setIfInBounds 1 (Value.ref h₁.objs.size))) he₂ (Obj.isFreed_of_fields hd₃)
 have hT₃:=(tql (h₁.push o) (Obj.mapFields (·.setIfInBounds 1 (Value.ref h₁.objs.size))) (Ne.symm hTe)).trans (tqe h₁ (Obj.isFreed_of_fields hod))
 unfold setFlight
 refine tqa (tqf he₃ hd₃ (x:=.ref h₁.objs.size) (by simp [hsz]) ?_)
 rw [if_pos (show (Value.ref h₁.objs.size != Value.none)=true from by simp)]
 refine wpAny_setField hT₃ hod (by simp only [List.size_toArray,List.length_append,List.length_cons,List.length_nil]<;>omega) ?_
 have keep:∀b u,b≠a->h₁.get? b=some u->(((h₁.push o).update a (Obj.mapFields (·.setIfInBounds 1 (Value.ref h₁.objs.size)))).update h₁.objs.size (Obj.mapFields (·.setIfInBounds 3 ((none:Option Addr).elim Value.none fun f=>rawInt f)))).get? b=some u:=fun b u hbe hb=>by
  have hbT:h₁.objs.size≠b:=Nat.ne_of_gt (tqd hb)
  rw [tql _ _ hbT,tql _ _ (Ne.symm hbe)]
  exact tqc _ hb
 refine h _ h₁.objs.size _ _ (fun b u hb hbe q=>keep b u hbe ((hs₁.2.1 b hb).trans q)) (fun b u hbe q=>?_) (Nat.le_of_eq hs₁.1.symm) hTe ?_ (tqm _ hT₃ (Obj.isFreed_of_fields (Obj.data_mapFields hod _))) (Obj.data_mapFields hod _) ?_
 ·obtain ⟨sl,e⟩:=hs₁.2.2 b u q
  exact ⟨sl,keep b _ hbe e⟩
 ·rw [tql _ _ hTe];exact he₃
 ·first|(simp;done)|(rcases hpl with rfl|⟨_,_,_,_,_,_,_,rfl⟩<;>simp)
theorem zu2 (hfr:A.frames=some (env::outer))(hl:s.heap.FunFrames base (env::outer))(hf:env.frame=some L)(hF:Fly New C dx a s.heap H)(hN:∀b,s.heap.objs.size<=b->New b)(hok:HOk P w H s.heap)(hfree:∀b∈frs (env::outer),H b=none)
 (h:∀h' ch,(∀b∈ch,New b/\H b=none/\∃o vs,s.heap.get? b=some o/\o.data=.fields vs)->Un (frs (env::outer)) ch H H s.heap h'->HOk P w H h'->Fly New C dx a h' H->Q () {s with heap:=h'}) :
 wpAny M A (noteFrame (.ref a) env) (fun _ s1=>wpAny M A (setFlight (.ref a) none) Q E s1) E s:=by
 obtain ⟨na,ha,oe,vs,he,hc,hdx,hd,tr⟩:=hF
 have fin:∀h' ch,(∀b∈ch,New b/\H b=none/\∃o vs,s.heap.get? b=some o/\o.data=.fields vs)->(∀b o,b∉frs (env::outer)->b∉ch->s.heap.get? b=some o->h'.get? b=some o)->(∀b o,b∉ch->s.heap.get? b=some o->∃sl,h'.get? b=some {o with slots:=sl})->Fly New C dx a h' H->Q () {s with heap:=h'}:=fun h' ch hch keep slot fl=>by
  refine h h' ch hch ⟨fun b o q _ hb hx=>keep b o hb hx q,fun b o q _ _ hx=>slot b o hx q,fun _ _ _ n _=>n,fun b o q hx=>let ⟨sl,e⟩:=slot b o hx q;⟨_,e⟩,fun _ _ e=>e,fun _ _ _ e=>e,fun b ps e=>⟨#[],by rw [e];simp⟩⟩ (fun b u e=>(hok b u e).stay (fun c v hc q=>?_) (fun _ q=>q) fun _ _ q=>q) fl
  have nn:H c≠none:=by rcases hc with z|z<;>(intro z';first|(rw [z,e] at z';cases z')|(rw [z] at z';cases z'))
  exact keep c v (fun z=>nn (hfree c z)) (fun z=>nn (hch c z).2.1) q
 unfold noteFrame
 simp only [hf]
 rcases tr with h1|⟨T,oT,ts,h1,hTa,nT,hT0,hT,hdT,h3⟩
 ·refine tqa (tqf he hd h1 ?_)
  rw [if_neg (by decide)]
  refine zum hfr hl hf he hd (Array.getElem?_eq_some_iff.mp h1).1 fun h' T oT ts k1 k2 k3 k4 k5 k6 k7 k8=>?_
  refine fin h' [a] (fun b hb=>?_) (fun b o hb hx q=>k1 b o hb (fun z=>hx (by simp [z])) q) (fun b o hx q=>k2 b o (fun z=>hx (by simp [z])) q) ⟨na,ha,_,_,k5,?_,?_,Obj.data_mapFields hd _,.inr ⟨T,oT,ts,by simp [(Array.getElem?_eq_some_iff.mp h1).1],k4,hN _ k3,hok.fresh k3,k6,k7,k8⟩⟩
  ·rcases List.mem_singleton.mp hb with rfl
   exact ⟨na,ha,oe,vs,he,hd⟩
  ·rw [Obj.cls_mapFields];exact hc
  ·rw [zma];exact hdx
 ·refine tqa (tqf he hd h1 ?_)
  rw [if_pos (show (Value.ref T != Value.none)=true from by simp)]
  refine tqa (tqf hT hdT h3 ?_)
  rw [if_neg (show ¬ ((Value.none==rawInt L)=true) from by simp [rawInt])]
  refine tqa (wpAny_setField hT hdT (Array.getElem?_eq_some_iff.mp h3).1 ?_)
  have other:∀b,b≠T->(s.heap.update T (Obj.mapFields (·.setIfInBounds 3 Value.none))).get? b=s.heap.get? b:=fun b hb=>tql _ _ (Ne.symm hb)
  have noRec:∀b o,s.heap.get? b=some o->(∀vs,o.data≠.fields vs)->b≠T:=fun b o hb hnf q=>by
   rw [q,hT] at hb;cases hb;exact hnf ts hdT
  have hz:(s.heap.update T (Obj.mapFields (·.setIfInBounds 3 Value.none))).objs.size=s.heap.objs.size:=Heap.size_after_update ..
  refine zum (s:={s with heap:=s.heap.update T (Obj.mapFields (·.setIfInBounds 3 Value.none))}) hfr (hl.of_keeps fun b o hb hnf=>⟨o,(other b (noRec b o hb hnf)).trans hb,rfl⟩) hf ((other a (Ne.symm hTa)).trans he) hd (Array.getElem?_eq_some_iff.mp h1).1 fun h' T' oT' ts' k1 k2 k3 k4 k5 k6 k7 k8=>?_
  have k3:s.heap.objs.size<=T':=by rw [<- hz];exact k3
  refine fin h' [a,T] (fun b hb=>?_) (fun b o hb hx q=>k1 b o hb (fun z=>hx (by simp [z])) ((other b (fun z=>hx (by simp [z]))).trans q)) (fun b o hx q=>k2 b o (fun z=>hx (by simp [z])) ((other b (fun z=>hx (by simp [z]))).trans q)) ⟨na,ha,_,_,k5,?_,?_,Obj.data_mapFields hd _,.inr ⟨T',oT',ts',by simp [(Array.getElem?_eq_some_iff.mp h1).1],k4,hN _ k3,hok.fresh k3,k6,k7,k8⟩⟩
  ·rcases List.mem_cons.mp hb with rfl|hb
   ·exact ⟨na,ha,oe,vs,he,hd⟩
   ·rcases List.mem_singleton.mp hb with rfl
    exact ⟨nT,hT0,oT,ts,hT,hdT⟩
  ·rw [Obj.cls_mapFields];exact hc
  ·rw [zma];exact hdx
end
def CXE (P:Program)(w:World):CXT:=fun outer H s E e s'=>∃a C dx H',e=.ref a/\s'.os=s.os/\AllBare s'.gens/\Un (frs outer) [] H H' s.heap s'.heap/\HOk P w H' s'.heap/\Fly (fun b=>s.heap.get? b=none) C dx a s'.heap H'/\E (.ref C) dx H'
theorem Fly.imp {New New':Addr->Prop}{C a:Addr}{dx:Option Addr}{h:Heap}{H:Hp}(f:Fly New C dx a h H)(i:∀b,New b->New' b):Fly New' C dx a h H:=by
 obtain ⟨na,ha,o,vs,h1,h2,h3,h4,tr⟩:=f
 refine ⟨i _ na,ha,o,vs,h1,h2,h3,h4,?_⟩
 rcases tr with t|⟨T,oT,ts,t1,t2,t3,t4⟩
 ·exact .inl t
 ·exact .inr ⟨T,oT,ts,t1,t2,i _ t3,t4⟩
section
variable {P:Program}{w:World}{K:PySem.W.Frag}{mg:Str->Option Value}{base:Heap}{N:List Str}{qual:Str}{scope:Scope}{f:Addr}{cd:Value}{A:Around}{outer:List PySem.Env}{s:Shared}{H:Hp}{E:XK}
theorem z1j {pins:List (Addr×Obj)}{σ:L2.St}{H':Hp}{s':Shared}{a C:Addr}{dx:Option Addr}(I:Inv (zfe (CXE P w) P w K mg base N qual scope f cd A outer s H E) pins σ H' s')(hF:Fly (zme (zfe (CXE P w) P w K mg base N qual scope f cd A outer s H E)) C dx a s'.heap H')(hE:E (.ref C) dx H') :
 (zfe (CXE P w) P w K mg base N qual scope f cd A outer s H E).xe (.ref a) s':=by
 have hst:=I.stack
 have hsz:s.heap.objs.size<=s'.heap.objs.size:=I.sz
 have hL:∀b o,s.heap.get? b=some o->b∈frs (envOfC qual scope s.heap.objs.size f cd::outer)->b∈frs outer:=fun b o q hb=>by
  rcases List.mem_cons.mp (show b∈s.heap.objs.size::frs outer from hb) with e|e
  ·exact absurd (tqd q) (by rw [e];exact tqn _)
  ·exact e
 unfold zfe
 dsimp only
 unfold leaving
 refine tqa (zu2 (P:=P) (w:=w) (New:=fun b=>s.heap.get? b=none) I.ok.frames hst rfl (hF.imp fun b z=>z.1) (fun b z=>Heap.get?_none_of_le (tqh hsz z)) I.hok I.stkFree fun h' ch hch u hok fl=>?_)
 have nch:∀b o,s.heap.get? b=some o->b∉ch:=fun b o q z=>by have:=(hch b z).1;rw [q] at this;cases this
 have hb0:Un (frs outer) [] H H' s.heap s'.heap:=I.base
 refine ⟨a,C,dx,H',rfl,I.os,I.bare,⟨fun b o q n hb hx=>?_,fun b o q n hb hx=>?_,hb0.free,fun b o q hx=>?_,hb0.tups,hb0.frzs,hb0.tbls⟩,hok,fl,hE⟩
 ·exact u.keep b o (hb0.keep b o q n hb hx) (hb0.free b o q n hx) (fun z=>hb (hL b o q z)) (nch b o q)
 ·obtain ⟨sl,e⟩:=hb0.slot b o q n hb hx
  obtain ⟨sl',e'⟩:=u.any e (hb0.free b o q n hx) (nch b o q)
  exact ⟨sl',e'⟩
 ·obtain ⟨o',e⟩:=hb0.there b o q hx
  exact u.there b o' e (nch b o q)
end
section
variable {X:Cx}{pins:List (Addr×Obj)}{σ:L2.St}{H H':Hp}{s s':Shared}{E:XK}{e:Value}
theorem zyp (I:Inv X pins σ H s)(hx:X.ex=[])(h:CXE X.prog X.w X.stack H s E e s'):∃a C dx H',e=.ref a/\Inv X pins σ H' s'/\Fly (zme X) C dx a s'.heap H'/\E (.ref C) dx H':=by
 obtain ⟨a,C,dx,H',rfl,os,bare,un,hok,fl,q⟩:=h
 refine ⟨a,C,dx,H',rfl,I.call' os un hok bare (fun b z=>absurd z (by simp)),fl.imp fun b z=>⟨?_,fun p hp e=>?_⟩,q⟩
 ·cases e:X.s₀.heap.get? b with
  |none=>rfl
  | some o =>
    obtain ⟨o',e'⟩:=I.base.there b o e (by rw [hx];simp)
    rw [z] at e';cases e'
 ·have:=(I.pin p (List.mem_append_left _ hp)).1
  rw [e,z] at this;cases this
theorem z1q {h':Heap}{ch:List Addr}(I:Inv X pins σ H s)(hch:∀b∈ch,X.s₀.heap.get? b=none/\(∃o vs,s.heap.get? b=some o/\o.data=.fields vs)/\∀p∈X.pn++pins,p.1≠b)(u:Un (frs X.stack) ch H H s.heap h')(hok:HOk X.prog X.w H h'):Inv X pins σ H {s with heap:=h'}:=by
 obtain ⟨m,⟨o,es,ep,ho,hd,r⟩,hl⟩:=id I.loc
 have neL:X.env.locals∉ch:=fun z=>by
  obtain ⟨o',vs,e,d⟩:=(hch _ z).2.1
  rw [ho] at e;cases e;rw [hd] at d;cases d
 have neC:∀x c,X.env.cells.lookup x=some c->c∉ch:=fun x c e z=>by
  obtain ⟨o',vs,e',d⟩:=(hch _ z).2.1
  obtain ⟨v,o2,e2,d2⟩:=I.cell x c e
  rw [e2] at e';cases e';rw [d2] at d;cases d
 have n0:∀b o,X.s₀.heap.get? b=some o->b∉ch:=fun b o e z=>by rw [(hch b z).1] at e;cases e
 have nst:∀b o,X.s₀.heap.get? b=some o->b∉X.fs->b∉frs X.stack:=fun b o e n z=>(List.mem_cons.mp (I.stkSub b z)).elim (fun q=>absurd (tqd e) (by rw [q];exact Nat.not_lt.mpr I.ok.above)) n
 obtain ⟨sl,hL⟩:=u.any ho I.free neL
 have cellK:∀x c,X.env.cells.lookup x=some c->∀v,s.heap.IsCell c v->h'.IsCell c v:=fun x c e v ⟨o,ho,hd⟩=>by
  obtain ⟨sl,q⟩:=u.any ho (I.freeC x c e) (neC x c e)
  exact ⟨_,q,hd⟩
 refine ⟨I.ok,I.os,I.bare,⟨fun b o e n hb hx=>?_,fun b o e n hb hx=>?_,I.base.free,fun b o e hx=>?_,I.base.tups,I.base.frzs,I.base.tbls⟩,⟨m,⟨_,es,ep,hL,hd,r⟩,fun i x v e1 e2 e3=>?_⟩,fun x c e=>?_,I.free,I.freeC,fun p hp=>?_,hok,I.len⟩
 ·exact u.keep b o (I.base.keep b o e n hb hx) (I.base.free b o e n hx) (nst b o e hb) (n0 b o e)
 ·obtain ⟨sl,e1⟩:=I.base.slot b o e n hb hx
  obtain ⟨sl',e2⟩:=u.any e1 (I.base.free b o e n hx) (n0 b o e)
  exact ⟨sl',e2⟩
 ·obtain ⟨o',e1⟩:=I.base.there b o e hx
  exact u.there b o' e1 (n0 b o e)
 ·obtain ⟨u',r',l⟩:=hl i x v e1 e2 e3
  refine ⟨u',r',?_⟩
  rcases l with l|⟨k,c,e,z⟩
  ·exact .inl l
  ·exact .inr ⟨k,c,e,cellK x c e _ z⟩
 ·obtain ⟨v,z⟩:=I.cell x c e
  exact ⟨v,cellK x c e v z⟩
 ·obtain ⟨e,n,ne,nf,d⟩:=I.pin p hp
  exact ⟨u.keep p.1 p.2 e n (fun z=>(List.mem_cons.mp (I.stkSub _ z)).elim ne nf) fun z=>(hch _ z).2.2 p hp rfl,n,ne,nf,d⟩
theorem zqq {a:Addr}{o:HO}(I:Inv X pins σ H s)(hx:X.ex=[])(hn:H a=none)(h0:X.s₀.heap.get? a=none)(hf:∃ob vs,s.heap.get? a=some ob/\ob.data=.fields vs)(hp:∀p∈X.pn++pins,p.1≠a)(new:zdb X.prog X.w (upd H a o) s.heap a o):Inv X pins σ (upd H a o) s:=by
 obtain ⟨ob,vs,hob,hd⟩:=hf
 have ne:∀b u,H b=some u->b≠a:=fun b u e=>zbi e hn
 refine ⟨I.ok,I.os,I.bare,⟨I.base.keep,I.base.slot,fun b o e n hx=>?_,I.base.there,fun b xs e=>?_,fun b o u e=>?_,fun b ps e=>?_⟩,I.loc,I.cell,?_,fun x c e=>?_,fun p hp'=>?_,fun b u e=>?_,I.len⟩
 ·rw [zaz (fun z=>by rw [z,h0] at e;cases e)];exact I.base.free b o e n hx
 ·have q:=I.base.tups b xs e
  rw [zaz (ne b _ q)];exact q
 ·have q:=I.base.frzs b o u e
  rw [zaz (ne b _ q)];exact q
 ·obtain ⟨m,q⟩:=I.base.tbls b ps e
  exact ⟨m,by rw [zaz (ne b _ q)];exact q⟩
 ·obtain ⟨m,⟨oL,es,ep,ho,hdL,_⟩,_⟩:=id I.loc
  rw [zaz (fun z=>by rw [z,hob] at ho;cases ho;rw [hd] at hdL;cases hdL)];exact I.free
 ·obtain ⟨v,o2,e2,d2⟩:=I.cell x c e
  rw [zaz (fun z=>by rw [z,hob] at e2;cases e2;rw [hd] at d2;cases d2)];exact I.freeC x c e
 ·obtain ⟨e,n,r⟩:=I.pin p hp'
  exact ⟨e,by rw [zaz (hp p hp')];exact n,r⟩
 ·by_cases hb:b=a
  ·subst hb
   rw [zcf] at e;cases e
   exact new
  ·rw [zaz hb] at e
   exact (I.hok b u e).stay (fun c v _ q=>q) (fun c q=>by rw [zaz (ne c _ q)];exact q) fun c xs q=>by rw [zaz (ne c _ q)];exact q
end
def okX {α:Type}(r:Res α)(k:α->Mem->Prop)(kx:D->Mem->Prop):Prop:=match r with
 |.ok a M=>k a M
 |.err x M=>kx x M
 |.bad=>False
theorem okX_of {α:Type}{r:Res α}{k:α->Mem->Prop}{kx:D->Mem->Prop}(h:okE r k):okX r k kx:=by
 cases r with
 |ok a M=>exact h
 |err=>exact h.elim
 |bad=>exact h
def zww (fa:Fa)(K:PySem.W.Frag)(μ:Mu)(H:Hp)(E:XK)(x:D)(M':Mem):Prop:=∀C dx c p H' μ',Ext μ H μ' H'->RelM fa K μ' H' M'->x=.exc c p->fa (cid c)=some C->XNum H' c dx p->E (.ref C) dx H'
theorem passE {P:Program}{w:World}{X:Cx}:Passes (CXE P w) X E0:=fun _ _ _ _ _ _ _ h=>let ⟨_,_,_,_,_,_,_,_,_,_,z⟩:=h;z.elim
end LD
namespace LD
open PySem PySem.Spec PyProof.Rows L2
def spD (fa:Fa)(K:PySem.W.Frag)(k:Nat)(call:List D->Mem->Res D):Sp:=fun vs H Q E=>vs.length=k/\∃μ M ds,RelM fa K μ H M/\za7 fa K μ H ds vs/\okX (call ds M) (zbs fa K μ H Q) (zww fa K μ H E)
def zgc (fa:Fa)(P:Program)(w:World)(K:PySem.W.Frag)(mg:Str->Option Value)(base:Heap)(n:Nat)(f:Nat)(call:List D->Mem->Res D):Prop:=
 (∀ds M,call ds M=.bad)\/∃(ad:Addr) (fd:FuncData) (ps:List Str),fa f=some ad/\PySem.W.keepIn K (.ref ad)=true/\Binds K fd ps []/\(∀ds M,ds.length≠ps.length->call ds M=.bad)/\zkf P w K mg base (CXE P w) (n+4) ad fd ps (spD fa K ps.length call)
section
variable {fa:Fa}{X:Cx}{a b d:Expr}{ga gb gd:Env->Mem->Res D}{pos p:Pos}{es:List Expr}{gs:Env->Mem->Res (List D)}{n:Nat}
theorem zy9 {call:List D->Mem->Res D}{P:D->Mem->Prop}{r:Res (List D)}(hb:∀ds M,call ds M=.bad)(h:okE (r.bind fun ds M=>call ds M) P):False:=by
 obtain ⟨ds,M,_,q⟩:=zbg h
 rw [hb] at q
 exact q
theorem zqw {call:List D->Mem->Res D}{k:Nat}{σ:L2.St}{H:Hp}{Q:VK}{μ:Mu}{Z:Env}{M:Mem}(hE:zbu fa X.K μ H σ Z)(hM:RelM fa X.K μ H M)(h:okE ((gs Z M).bind fun ds M=>call ds M) (zbs fa X.K μ H Q))
 (hk:∀ds M1,ds.length≠k->call ds M1=.bad):tCall (spD fa X.K k call) [] E0 (tA fa X.K gs) σ H Q:=by
 refine tA1 hE hM h fun ds M1 vs H1 μ1 x1 hE1 hM1 r1 h1=>?_
 rw [List.append_nil]
 refine ⟨?_,μ1,M1,ds,hM1,r1,okX_of (okW h1 x1)⟩
 rw [r1.length]
 by_cases hl:ds.length=k
 ·exact hl
 ·rw [hk ds M1 hl] at h1;exact h1.elim
theorem d_call {f:Nat}{x:Str}{call:List D->Mem->Res D}(C:zgc fa X.prog X.w X.K X.mg X.base n f call)(hr:zcl (n+4) X.A)(hg:Gl X x)(hm:∀ad,fa f=some ad->X.mg x=some (.ref ad))(hs:DA fa X (a::es) gs)
 (hdb:(x==("__debug__":Str))=false) (he:starEach (a::es) X.env=(false,eval a X.env)::starEach es X.env) (hpl:(backTo pos (starEach es X.env)).any (·.1)=false) :
 DE fa X (.Call (.Name x p) (a::es) [] pos) (fun Z M=>(gs Z M).bind fun ds M=>call ds M):=by
 rcases C with hb|⟨ad,fd,ps,h1,h2,h3,h4,F⟩
 ·exact fun pins s σ H Q I ⟨μ,Z,M,hE,hM,h⟩=>(zy9 hb h).elim
 ·exact zch (z36 F hr hg (hm ad h1) h2 h3 .nil passE hs hdb he hpl) fun σ H Q ⟨μ,Z,M,hE,hM,h⟩=>zqw hE hM h h4
theorem z5c {i:Nat}{x:Str}{call:Nat->List D->Mem->Res D}(C:∀f,zgc fa X.prog X.w X.K X.mg X.base n f (call f))(hr:zcl (n+4) X.A)(hN:X.N[i]?=some x)(hv:Vis X.env.scope x)(hs:DA fa X (a::es) gs)
 (hd:(x==("__debug__":Str))=false) (hcd:(x==("__classdict__":Str))=false) (he:starEach (a::es) X.env=(false,eval a X.env)::starEach es X.env) (hpl:(backTo pos (starEach es X.env)).any (·.1)=false) :
 DE fa X (.Call (.Name x p) (a::es) [] pos) (fun Z M=>match Z[i]?.getD none with|some (.fn f)=>(gs Z M).bind fun ds M=>call f ds M|_=>.bad):=by
 intro pins s σ H Q I ⟨μ,Z,M,hE,hM,h⟩
 dsimp only at h
 cases e:Z[i]?.getD none with
 |none=>rw [e] at h;exact h.elim
 | some df =>
   cases df with
   | fn f =>
     rw [e] at h
     simp only at h
     have e':Z[i]?=some (some (.fn f)):=by
      cases q:Z[i]? with
      |none=>rw [q] at e;cases e
      |some o=>rw [q] at e;simp at e;rw [e]
     obtain ⟨v,hv1,hv2⟩:=hE.at' i _ e'
     obtain ⟨ad,rfl,had⟩:=hv2
     rcases C f with hb|⟨ad',fd,ps,h1,h2,h3,h4,F⟩
     ·exact (zy9 hb h).elim
     ·rw [had] at h1;cases h1
      refine wpAny_Call_Name_kw (thn (zn8 hN hv hd hcd pins s σ H (fun v H'=>v=.ref ad/\H'=H) I ⟨_,hv1,rfl,rfl⟩) fun u s1 ⟨v,H1,I1,r1,e1,e2⟩=>?_)
      subst e1 e2
      obtain rfl:u=Value.ref ad:=r1
      refine PySem.W.callWith_K (h₀:=X.base) I1.ok.mod.kin h2 (thn (hs pos pins s1 σ H1 _ I1 (zqw hE hM h h4)) fun us s2 ⟨vs,H2,I2,r,q⟩=>⟨I2.kIn,?_⟩) he hpl
      exact zxt F hr h3 .nil passE I2 r q
   |_=>rw [e] at h;exact h.elim
theorem zwq (f:Blt){x:Str}{id:String}(hc:zc0 X (.builtin id) (zni fa X.K f))(hg:Gl X x)(hm:X.mg x=none)(hv:bootBuiltins x=some (.builtin id))(hs:DA fa X (a::es) gs)(hn:x≠"__name__")(hdb:(x==("__debug__":Str))=false)
 (he:starEach (a::es) X.env=(false,eval a X.env)::starEach es X.env) (hpl:(backTo pos (starEach es X.env)).any (·.1)=false):DE fa X (.Call (.Name x p) (a::es) [] pos) (fun Z M=>(gs Z M).bind fun ds M=>zff f ds M):=
 zch (zhs hc hg hm hv hs hn hdb he hpl) fun σ H Q ⟨μ,Z,M,hE,hM,h⟩=>tA1 hE hM h fun ds M1 vs H1 μ1 x1 hE1 hM1 r1 h1=>⟨μ1,M1,ds,hM1,r1,okW h1 x1⟩
theorem zyz (f:Blt){x:Str}{T:String}(hc:zc0 X (.type T) (zni fa X.K f))(hg:Gl X x)(hm:X.mg x=none)(hv:bootBuiltins x=some (.type T))(hs:DA fa X (a::es) gs)(hn:x≠"__name__")(hdb:(x==("__debug__":Str))=false)
 (he:starEach (a::es) X.env=(false,eval a X.env)::starEach es X.env) (hpl:(backTo pos (starEach es X.env)).any (·.1)=false):DE fa X (.Call (.Name x p) (a::es) [] pos) (fun Z M=>(gs Z M).bind fun ds M=>zff f ds M):=
 zch (zx0 hc hg hm hv hs hn hdb he hpl) fun σ H Q ⟨μ,Z,M,hE,hM,h⟩=>tA1 hE hM h fun ds M1 vs H1 μ1 x1 hE1 hM1 r1 h1=>⟨μ1,M1,ds,hM1,r1,okW h1 x1⟩
theorem d_inst (t:Ty)(ht:∀c,t≠.own c){x:Str}{p1 p2:Pos}(ha:DE fa X a ga)(hg:Gl X "isinstance")(hm:X.mg "isinstance"=none)(hv:bootBuiltins "isinstance"=some (.builtin "isinstance"))(hgt:Gl X x)(hmt:X.mg x=none)(hvt:bootBuiltins x=some (.type (tyName t)))
 (hn:x≠"__name__") (hdb:(x==("__debug__":Str))=false)
 (he:starEach [a,.Name x p1] X.env=(false,eval a X.env)::starEach [.Name x p1] X.env):DE fa X (.Call (.Name "isinstance" p2) [a,.Name x p1] [] pos) (fun Z M=>(ga Z M).bind fun x M=>(ofO M (zca t x)).bind fun b M=>.ok (.bl b) M):=
 zch (zhs (f_inst (fa:=fa) t ht) hg hm hv (zcq ha (zcq (zu0 hgt hmt hvt (v:=.ty (tyName t)) rfl hn hdb) zd9 (by rfl)) he) (by decide) (by decide) he (by rfl)) fun σ H Q ⟨μ,Z,M,hE,hM,h⟩=>t1 hE hM h fun x M1 v H1 μ1 x1 hE1 hM1 r1 h1=>by
  obtain ⟨b,e,q⟩:=zol h1
  exact ⟨μ1,M1,x,v,b,rfl,hM1,r1,e,zbn (v:=.bl b) hM1 (q.ext x1) rfl⟩
def gT (fa:Fa)(K:PySem.W.Frag)(t:Tgt):TG:=fun v σ H Q=>∃μ Z M d ρ1,zbu fa K μ H σ Z/\RelM fa K μ H M/\Rep fa K μ H d v/\zde t d Z=some ρ1/\∀σ1,zbu fa K μ H σ1 ρ1->Q σ1 H
theorem zxy {tg:Expr}{g g':TG}(h:PG X tg g)(i:∀v σ H Q,g' v σ H Q->g v σ H Q):PG X tg g':=fun pins s σ H v u Q I r q=>h pins s σ H v u Q I r (i v σ H Q q)
theorem zuy {tg:List Expr}{g g':TGs}(h:PGs X tg g)(i:∀v σ H Q,g' v σ H Q->g v σ H Q):PGs X tg g':=fun pins s σ H v u Q I r q=>h pins s σ H v u Q I r (i v σ H Q q)
theorem z48 {i:Nat}{x:Str}(hN:X.N.Nodup)(hi:X.N[i]?=some x)(hx:Loc X.env.scope x)(hf:X.fn x=true\/X.env.scope.names.lookup x=some .local):PG X (.Name x pos) (gT fa X.K (.one i)):=
 zxy (zuz hN hi hx hf) fun v σ H Q ⟨μ,Z,M,d,ρ1,hE,hM,r,e,k⟩=>by
  have e':Z.set i (some d)=ρ1:=Option.some.inj e
  subst e'
  exact k _ (hE.set r)
def gNames (fa:Fa)(K:PySem.W.Frag)(l:List Nat):TGs:=fun vs σ H Q=>∃μ Z M ds ρ1,zbu fa K μ H σ Z/\RelM fa K μ H M/\za7 fa K μ H ds vs/\zkj l ds Z=some ρ1/\∀σ1,zbu fa K μ H σ1 ρ1->Q σ1 H
inductive zj5 (X:Cx):List Nat->List Expr->Prop
 |nil:zj5 X [] []
 |cons {i:Nat}{x:Str}{p:Pos}{l:List Nat}{ns:List Expr} (hi:X.N[i]?=some x) (hx:Loc X.env.scope x) (hf:X.fn x=true\/X.env.scope.names.lookup x=some .local) (r:zj5 X l ns):zj5 X (i::l) (.Name x p::ns)
theorem zj5.each {l:List Nat}{ns:List Expr}(h:zj5 X l ns):(assignEach ns X.env).length=l.length/\(assignEach ns X.env).findIdx? (·.1)=none:=by
 induction h with
 |nil=>exact ⟨rfl,rfl⟩
 | cons hi hx hf r ih =>
   rename_i i x p l ns
   have e:assignEach (.Name x p::ns) X.env=(false,assign (.Name x p) X.env)::assignEach ns X.env:=rfl
   rw [e]
   refine ⟨by simp [ih.1],?_⟩
   rw [List.findIdx?_cons]
   simp [ih.2]
theorem z13 (hN:X.N.Nodup){l:List Nat}{ns:List Expr}(h:zj5 X l ns):PGs X ns (gNames fa X.K l):=by
 induction h with
 | nil =>
   refine zuy z34 fun vs σ H Q ⟨μ,Z,M,ds,ρ1,hE,hM,r,e,k⟩=>?_
   cases ds with
   | nil =>
     obtain rfl:vs=[]:=r
     have e':Z=ρ1:=Option.some.inj e
     subst e'
     exact ⟨rfl,k _ hE⟩
   |cons=>cases e
 | cons hi hx hf r ih =>
   refine zuy (z0j (zuz hN hi hx hf) ih (by rfl)) fun vs σ H Q ⟨μ,Z,M,ds,ρ1,hE,hM,r,e,k⟩=>?_
   cases ds with
   |nil=>cases e
   | cons d ds =>
     obtain ⟨v,vr,rfl,r1,r2⟩:=r
     exact ⟨v,vr,rfl,μ,_,M,ds,ρ1,hE.set r1,hM,r2,e,k⟩
theorem zlo:∀{l:List Nat}{ds:List D}{Z ρ1:Env},zkj l ds Z=some ρ1->ds.length=l.length
 |[],[],_,_,_=>rfl
 |_::_,[],_,_,h=>by cases h
 |[],_::_,_,_,h=>by cases h
 | _ :: l, _ :: ds, _, _, h => by
   have:=zlo (l:=l) (ds:=ds) h
   simp [this]
theorem dg_tup (hc:X.calm=true)(hN:X.N.Nodup){l:List Nat}{ns:List Expr}{k:Nat}(h:zj5 X l ns):PG X (.Tuple ns k pos) (gT fa X.K (.tup l)):=
 zxy (pg_tup (n:=l.length) hc (z13 (fa:=fa) hN h) h.each.1 h.each.2) fun v σ H Q ⟨μ,Z,M,d,ρ1,hE,hM,r,e,k⟩=>by
  cases d with
  | tup ds =>
    obtain ⟨a,vs,rfl,hq,r⟩:=r
    exact ⟨a,vs,rfl,hq,by rw [r.length];exact zlo e,μ,Z,M,ds,ρ1,hE,hM,r,e,k⟩
  |_=>cases e
end
end LD
namespace LD
open PySem PySem.Spec PyProof.Rows L2
section
variable {fa:Fa}{X:Cx}{a b d:Expr}{ga gb gd:Env->Mem->Res D}{pos p:Pos}{es:List Expr}{gs:Env->Mem->Res (List D)}{n:Nat}
theorem ds_asg {tg:Expr}{t:Tgt}(ha:DE fa X a ga)(hg:PG X tg (gT fa X.K t))(hs:swapsWithSole [tg] a pos.line X.env=pure false)(hw:swappedStores [tg] a X.env=pure none)(h1:(assignEach [tg] X.env).map (·.2)=[assign tg X.env]) :
 DS fa X (.Assign [tg] a pos) (fun Z M=>(ga Z M).bind fun x M=>(ofO M (zde t x Z)).bind fun ρ1 M=>.ok (.next ρ1) M):=
 zg7 (zsp ha hg hs hw h1) fun D σ H ⟨μ,Z,M,hE,hM,h⟩=>t1 hE hM h fun x M1 v H1 μ1 x1 hE1 hM1 r1 h1=>by
  obtain ⟨ρ1,M2,e,q⟩:=zbg h1
  cases eb:zde t x Z with
  |none=>rw [eb] at e;cases e
  | some ρ2 =>
    rw [eb] at e
    cases e
    exact ⟨μ1,Z,M1,x,ρ1,hE1,hM1,r1,eb,fun σ1 hE2=>q σ1 H1 μ1 x1 hE2 hM1⟩
theorem zqa {D':Ends}{μ:Mu}{H:Hp}{σ:L2.St}{Z:Env}{M:Mem}{k:Nat}{ad:Addr}{ws:List V}{ds:List D}(hE:zbu fa X.K μ H σ Z)(hM:RelM fa X.K μ H M)(hk:μ.pub k=some ad)(r:za7 fa X.K μ H ds ws)
 (q:∀σ' H' μ',Ext μ H μ' H'->zbu fa X.K μ' H' σ' Z->RelM fa X.K μ' H' (M.set k ds)->D'.nx σ' H'):D'.nx σ (upd H ad (.lst ws)):=
 q σ _ μ (Ext.write (vs:=ws) hM hk) (hE.ext (Ext.write (vs:=ws) hM hk)) (hM.write hk r)
theorem ds_put (ha:DE fa X a ga)(hb:DE fa X b gb)(hd:DE fa X d gd){p2:Pos}
 (h0:∀v,assign (.Subscript a b p2) X.env v=(do
  let ov <- holding [v] (eval a X.env)
  let iv <- holding [v,ov] (eval b X.env)
  standAt p2
  holding [v,ov,iv] (setItem ov iv v)
  release [v,ov,iv] [])) (hs:swapsWithSole [.Subscript a b p2] d pos.line X.env=pure false) (hw:swappedStores [.Subscript a b p2] d X.env=pure none) (h1:(assignEach [.Subscript a b p2] X.env).map (·.2)=[assign (.Subscript a b p2) X.env]) :
 DS fa X (.Assign [.Subscript a b p2] d pos) (fun Z M=>(gd Z M).bind fun z M=>(ga Z M).bind fun x M=>(gb Z M).bind fun y M=>match x,y with
  | .cell k, .int n => match M[k]? with
    | some ds => match ixN ds.length n with
      |some j=>.ok (.next Z) (M.set k (ds.set j z))
      |none=>.bad
    |none=>.bad
  |_,_=>.bad):=
 zg7 (zsp hd (pg_sub ha hb set_list h0) hs hw h1) fun D' σ H ⟨μ,Z,M,hE,hM,h⟩=>t1 hE hM h fun z M1 v H1 μ1 x1 hE1 hM1 r1 h1=>t2 hE1 hM1 h1 fun x y M2 vx vy H2 μ2 x2 hE2 hM2 rx ry h2=>by
  have key:∀k n,x=.cell k->y=.int n->rSetL vx vy v H2 fun H3=>D'.nx σ H3:=fun k n e1 e2=>by
   subst e1 e2
   dsimp only at h2
   cases e:M2[k]? with
   |none=>rw [e] at h2;exact h2.elim
   | some ds =>
     rw [e] at h2
     dsimp only at h2
     cases ej:LD.ixN ds.length n with
     |none=>rw [ej] at h2;exact h2.elim
     | some j =>
       rw [ej] at h2
       obtain ⟨ad,rfl,hk⟩:=rx
       obtain ⟨ad',ws,h3,h4,h5⟩:=hM2.at' k ds e
       rw [hk] at h3;cases h3
       have q:∀σ' H' μ',Ext μ H μ' H'->zbu fa X.K μ' H' σ' Z->RelM fa X.K μ' H' (M2.set k (ds.set j z))->D'.nx σ' H':=h2
       refine ⟨ad,ws,n,j,rfl,ry,h4,by rw [h5.length];exact ej,zqa hE2 hM2 hk (h5.set j (r1.ext x2)) fun σ' H' μ' x' e' m'=>q σ' H' μ' ((x1.trans x2).trans x') e' m'⟩
  cases x with
  | cell k => cases y with
    |int n=>exact key k n rfl rfl
    |_=>exact h2.elim
  |_=>exact h2.elim
theorem ds_app (ha:DE fa X a ga)(hd:DE fa X d gd){apos cpos:Pos}(hbase:attributeBase a "append" X.env (eval a X.env)=eval a X.env)(hline:(apos.endLine==cpos.line)=true)(hs:starEach [d] X.env=[(false,eval d X.env)])
 (hsw:swapsWith (.Call (.Attribute a "append" apos) [d] [] cpos) none pos.line X.env=pure false) :
 DS fa X (.Expr (.Call (.Attribute a "append" apos) [d] [] cpos) pos) (fun Z M=>(ga Z M).bind fun x M=>(gd Z M).bind fun z M=>match x with
  | .cell k => match M[k]? with
    |some ds=>if ds.length<sz then .ok (.next Z) (M.set k (ds++[z])) else .bad
    |none=>.bad
  |_=>.bad):=
 zg7 (zpc (zvq PySem.F.plainAttrs_list PySem.F.slot_list_append PySem.F.type_list_append zqn ha (zcq hd zd9 hs) hbase (by rw [hs];rfl) hline hs (by rfl)) hsw) fun D' σ H ⟨μ,Z,M,hE,hM,h⟩=>by
  obtain ⟨x,M1,e1,h1⟩:=zbg h
  obtain ⟨z,M2,e2,h2⟩:=zbg h1
  cases x with
  | cell k =>
    dsimp only at h2
    cases e:M2[k]? with
    |none=>rw [e] at h2;exact h2.elim
    | some ds =>
      rw [e] at h2
      dsimp only at h2
      split at h2
      ·next hz=>
       have q:∀σ' H' μ',Ext μ H μ' H'->zbu fa X.K μ' H' σ' Z->RelM fa X.K μ' H' (M2.set k (ds++[z]))->D'.nx σ' H':=h2
       refine ⟨μ,Z,M,hE,hM,?_⟩
       rw [e1]
       intro vx H1 μ1 x1 hM1 rx
       obtain ⟨ad,rfl,hk⟩:=rx
       obtain ⟨ds1,ws1,_,hH1,_⟩:=hM1.mu_lt hk
       refine ⟨.inl ⟨rfl,ws1,SqL.of hH1⟩,μ1,Z,M1,hE.ext x1,hM1,?_⟩
       rw [e2]
       intro vz H2 μ2 x2 hM2 rz
       obtain ⟨ad',ws,h3,h4,h5⟩:=hM2.at' k ds e
       rw [x2.mu k ad hk] at h3;cases h3
       refine ⟨ad,ws,vz,rfl,rfl,h4,by rw [h5.length,<- zdt];exact hz,?_⟩
       exact zqa ((hE.ext x1).ext x2) hM2 (x2.mu k ad hk) (h5.append (.one rz)) fun σ' H' μ' x' e' m'=>q σ' H' μ' ((x1.trans x2).trans x') e' m'
      ·exact h2.elim
  |_=>exact h2.elim
theorem ds_ret (ha:DE fa X a ga):DS fa X (.Return (some a) pos) (fun Z M=>(ga Z M).bind fun x M=>.ok (.ret x) M):=
 zg7 (ps_ret ha) fun D' σ H ⟨μ,Z,M,hE,hM,h⟩=>by
  obtain ⟨x,M1,e,q⟩:=zbg h
  refine ⟨μ,Z,M,hE,hM,?_⟩
  rw [e];exact q
theorem ds_pass:DS fa X (.Pass pos) (fun Z M=>.ok (.next Z) M):=zg7 z3z fun D' σ H ⟨μ,Z,M,hE,hM,h⟩=>h σ H μ .refl hE hM
theorem FlP.ext {μ μ':Mu}{H H':Hp}{D':Ends}(x:Ext μ H μ' H'){fl:Fl}{M:Mem}(q:FlP fa X μ H D' fl M):FlP fa X μ' H' D' fl M:=by
 cases fl with
 |next ρ'=>exact fun σ' H'' μ'' y e m=>q σ' H'' μ'' (x.trans y) e m
 |ret d=>exact zbs.ext q x
 |exc x' ρ'=>exact XW.ext q x
theorem okF {r:Res Fl}{μ μ':Mu}{H H':Hp}{D':Ends}(x:Ext μ H μ' H')(h:okE r (FlP fa X μ H D')):okE r (FlP fa X μ' H' D'):=zbo h fun fl M q=>q.ext x
theorem ds_ite {c:Expr}{gc:Env->Mem->Res Bool}{st sf:List Stmt}{gt gf:Env->Mem->Res Fl}(hc:DT fa X c gc)(ht:DSs fa X st gt)(hf:DSs fa X sf gf):DS fa X (.If c st sf pos) (fun Z M=>(gc Z M).bind fun k M=>if k then gt Z M else gf Z M):=
 zg7 (ps_if hc ht hf) fun D' σ H ⟨μ,Z,M,hE,hM,h⟩=>tT1 hE hM h fun k M1 H1 μ1 x1 hE1 hM1 h1=>by
  cases k with
  |true=>exact ⟨μ1,Z,M1,hE1,hM1,okF x1 h1⟩
  |false=>exact ⟨μ1,Z,M1,hE1,hM1,okF x1 h1⟩
theorem z41:DSs fa X [] (fun Z M=>.ok (.next Z) M):=zuw zuv fun D' σ H ⟨μ,Z,M,hE,hM,h⟩=>h σ H μ .refl hE hM
theorem z11 {st:Stmt}{ss:List Stmt}{g:Env->Mem->Res Fl}{g':Env->Mem->Res Fl}(h1:DS fa X st g)(h2:DSs fa X ss g'):DSs fa X (st::ss) (fun Z M=>(g Z M).bind fun fl M=>match fl with
 |.next Z=>g' Z M
 |fl=>.ok fl M):=
 zuw (znj h1 h2) fun D' σ H ⟨μ,Z,M,hE,hM,h⟩=>by
  obtain ⟨fl,M1,e,q⟩:=zbg h
  refine ⟨μ,Z,M,hE,hM,?_⟩
  rw [e]
  cases fl with
  |next ρ1=>exact fun σ1 H1 μ1 x1 hE1 hM1=>⟨μ1,ρ1,M1,hE1,hM1,okF x1 q⟩
  |ret d=>exact q
  |exc x ρ1=>exact q
end
end LD
namespace LD
open PySem PySem.Spec PyProof.Rows L2
def zes (fa:Fa)(K:PySem.W.Frag)(μ0:Mu)(H0:Hp)(w:Walk)(J:It):Prop:=
 ∀(μ:Mu) (H:Hp) (M:Mem) (ds:List D),ExtW μ0 H0 μ H->RelM fa K μ H M->w M=some ds->(∀(i:Nat) (d:D),ds[i]?=some d->J.go i H/\∀x H',J.yld i H x H'->Ext μ H μ H'/\RelM fa K μ H' M/\Rep fa K μ H' d x)/\∀i,ds.length<=i->J.stop i H
def tI (fa:Fa)(K:PySem.W.Frag)(g:Env->Mem->Res Walk):TI:=fun σ H R=>∃μ Z M,zbu fa K μ H σ Z/\RelM fa K μ H M/\okE (g Z M) fun w M'=>∀J H' μ',Ext μ H μ' H'->RelM fa K μ' H' M'->zes fa K μ' H' w J->R J H'
abbrev DI (fa:Fa)(X:Cx)(tg iter:Expr)(g:Env->Mem->Res Walk):Prop:=PI X tg iter (tI fa X.K g)
theorem zw6 {fa:Fa}{K:PySem.W.Frag}{μ0 μ1:Mu}{H0 H1:Hp}{w:Walk}{J:It}(h:zes fa K μ0 H0 w J)(x:ExtW μ0 H0 μ1 H1):zes fa K μ1 H1 w J:=fun μ H M ds y hM e=>h μ H M ds (x.trans y) hM e
section
variable {fa:Fa}{X:Cx}{tg a b d:Expr}{ga gb gd:Env->Mem->Res D}{pos p:Pos}{es:List Expr}{n:Nat}
theorem zw7 {μ0:Mu}{H0:Hp}{dd:D}{ad:Addr}(h:Rep fa X.K μ0 H0 dd (.ref ad)):zes fa X.K μ0 H0 (fun M=>rdD M dd) (Itl X.K ad):=fun μ H M ds x hM e=>by
 obtain ⟨ad',vs,ea,s,r⟩:=zcd hM (Rep.extW x h) e
 cases ea
 refine ⟨fun i d hd=>?_,fun i hi=>⟨vs,s,by rw [r.length];exact hi⟩⟩
 obtain ⟨v,hv,rv⟩:=r.get hd
 refine ⟨⟨vs,v,s,hv⟩,fun y H' ⟨e,hy⟩=>?_⟩
 subst e
 have:=hy vs s
 rw [hv] at this;cases this
 exact ⟨.refl,hM,rv⟩
theorem zzn {μ0:Mu}{H0:Hp}{ds:List D}{ad:Addr}(h:Rep fa X.K μ0 H0 (.tup ds) (.ref ad)):zes fa X.K μ0 H0 (fun _=>some ds) (Itt X.K ad):=fun μ H M ds' x hM e'=>by
 cases e'
 obtain ⟨ad',vs,e,s,r⟩:=Rep.extW x h
 cases e
 refine ⟨fun i d hd=>?_,fun i hi=>⟨vs,s,by rw [r.length];exact hi⟩⟩
 obtain ⟨v,hv,rv⟩:=r.get hd
 refine ⟨⟨vs,v,s,hv⟩,fun y H' ⟨e,hy⟩=>?_⟩
 subst e
 have:=hy vs s
 rw [hv] at this;cases this
 exact ⟨.refl,hM,rv⟩
theorem zzp {μ0:Mu}{H0:Hp}(lo:Int)(n:Nat):zes fa X.K μ0 H0 (fun _=>some ((List.range n).map fun (k:Nat)=>D.int (lo+(k:Int)))) (Itr lo n):=fun μ H M ds x hM e=>by
 cases e
 refine ⟨fun i d hd=>?_,fun i hi=>(show n<=i by simpa using hi)⟩
 rw [List.getElem?_map] at hd
 by_cases hi:i<n
 ·rw [List.getElem?_range hi] at hd
  have e:D.int (lo+(i:Int))=d:=Option.some.inj hd
  subst e
  refine ⟨hi,fun y H' ⟨e1,e2⟩=>?_⟩
  subst e1 e2
  exact ⟨.refl,hM,rfl⟩
 ·rw [List.getElem?_eq_none (by simpa using hi)] at hd;cases hd
def zf7 (ga : Env -> Mem -> Res D) : Env -> Mem -> Res Walk := fun Z M => (ga Z M).bind fun x M => match x with
    |.lst ds=>.ok (fun _=>some ds) M
    |.tup ds=>.ok (fun _=>some ds) M
    |.frz ds=>.ok (fun _=>some ds) M
    |.cell k=>.ok (fun M=>M[k]?) M
    |_=>.bad
theorem di_seq (ha:DE fa X a ga):DI fa X tg a (zf7 ga):=fun pins s σ H R I ⟨μ,Z,M,hE,hM,h⟩=>by
 obtain ⟨x,M1,e,q⟩:=zbg h
 have lst:(∀μ' H',RelM fa X.K μ' H' M1->∀v,Rep fa X.K μ' H' x v->∃ds,rdD M1 x=some ds)->(∀J H' μ',Ext μ H μ' H'->RelM fa X.K μ' H' M1->zes fa X.K μ' H' (fun M=>rdD M x) J->R J H')->
  wpAny (model X.prog X.w) X.A (eval a X.env) (fun v s1=>wpAny (model X.prog X.w) X.A (pyIter v) (PIE X pins σ tg R) X.xe s1) X.xe s:=fun hx q=>by
  refine z33 ha pins s σ H R I ⟨μ,Z,M,hE,hM,?_⟩
  rw [e]
  intro v H1 μ1 x1 m1 r1
  obtain ⟨ds,er⟩:=hx μ1 H1 m1 v r1
  obtain ⟨ad,vs,rfl,s1,r⟩:=zcd m1 r1 er
  exact ⟨ad,rfl,⟨vs,s1⟩,q _ H1 μ1 x1 m1 (zw7 r1)⟩
 cases x with
 |lst ds=>exact lst (fun _ _ _ _ _=>⟨ds,rfl⟩) q
 |frz ds=>exact lst (fun _ _ _ _ _=>⟨ds,rfl⟩) q
 | tup ds =>
   refine pi_tup ha pins s σ H R I ⟨μ,Z,M,hE,hM,?_⟩
   rw [e]
   intro v H1 μ1 x1 m1 r1
   obtain ⟨ad,vs,rfl,s1,r⟩:=id r1
   exact ⟨ad,rfl,⟨vs,s1⟩,q _ H1 μ1 x1 m1 (zzn r1)⟩
 |cell k=>exact lst (fun μ' H' m' v ⟨ad,_,hk⟩=>let ⟨ds,_,e,_⟩:=m'.mu_lt hk;⟨ds,e⟩) q
 |_=>exact q.elim
def zha (ga : Env -> Mem -> Res D) : Env -> Mem -> Res Walk := fun Z M => (ga Z M).bind fun x M => match x with
    |.int n=>if -(2^62)<=n/\n<2^62 then .ok (fun _=>some ((List.range n.toNat).map fun (k:Nat)=>D.int (k:Int))) M else .bad
    |_=>.bad
theorem z46 (ha:DE fa X a ga)(hg:Gl X "range")(hm:X.mg "range"=none)(hs:starEach [a] X.env=[(false,eval a X.env)]):DI fa X tg (.Call (.Name "range" p) [a] [] pos) (zha ga):=fun pins s σ H R I ⟨μ,Z,M,hE,hM,h⟩=>by
 refine zxx hg hm (zcq ha zd9 hs) hs pins s σ H R I ?_
 refine t1 hE hM h fun x M1 v H1 μ1 x1 hE1 hM1 r1 h1=>?_
 cases x with
 | int n =>
   dsimp only at h1
   split at h1
   ·next c=>
    obtain rfl:v=.int n:=r1
    refine ⟨n,rfl,c.1,c.2,h1 _ H1 μ1 x1 hM1 ?_⟩
    have:=zzp (fa:=fa) (X:=X) (μ0:=μ1) (H0:=H1) 0 n.toNat
    simpa using this
   ·exact h1.elim
 |_=>exact h1.elim
def zgw (t:Tgt)(gb:Env->Mem->Res Fl):Fl->D->Mem->Res Fl:=fun fl d M=>match fl with
 |.next Z=>(ofO M (zde t d Z)).bind fun ρ1 M=>gb ρ1 M
 |fl=>.ok fl M
def Fl.out:Fl->Bool
 |.next _=>false
 |_=>true
theorem zlf {t:Tgt}{gb:Env->Mem->Res Fl}{fl:Fl}{w:Walk}{P:Fl->Mem->Prop}(ho:fl.out=true):∀(n i:Nat) (M:Mem),okE (zey (zgw t gb) w n i fl M) P->P fl M
 |0,_,_,h=>h.elim
 | n + 1, i, M, h => by
   unfold zey at h
   cases e:w M with
   |none=>rw [e] at h;exact h.elim
   | some ds =>
     rw [e] at h
     dsimp only at h
     cases e2:ds[i]? with
     |none=>rw [e2] at h;exact h
     | some d' =>
       rw [e2] at h
       cases fl with
       |next Z=>cases ho
       |ret d=>exact zlf ho n (i+1) M h
       |exc x Z=>exact zlf ho n (i+1) M h
theorem ds_for {t:Tgt}{body:List Stmt}{gw:Env->Mem->Res Walk}{gb:Env->Mem->Res Fl}(hp:PassesOwn (model X.prog X.w) X.A X.env X.xe)(hc:X.calm=true)(hi:DI fa X tg a gw)(hg:PG X tg (gT fa X.K t))(hb:DSs fa X body gb)
 (hs:∀x,foldedSetIterable a X.env x=pure x):DS fa X (.For tg a body [] pos) (fun Z M=>(gw Z M).bind fun w M=>zej (zgw t gb) w (.next Z) M):=
 zg7 (ps_for hp hc hi hg hb hs) fun D' σ H ⟨μ,Z,M,hE,hM,h⟩=>by
  obtain ⟨w,M1,e,q⟩:=zbg h
  refine ⟨μ,Z,M,hE,hM,?_⟩
  rw [e]
  intro J H1 μ1 x1 hM1 wk
  have hE1:=hE.ext x1
  refine ⟨fun i m σ' H'=>∃μ' ρ' M',Ext μ1 H1 μ' H'/\zbu fa X.K μ' H' σ' ρ'/\RelM fa X.K μ' H' M'/\okE (zey (zgw t gb) w m i (.next ρ') M') (FlP fa X μ H D'),
   ⟨_,μ1,Z,M1,.refl,hE1,hM1,q⟩,?_⟩
  rintro i m σ2 H2 ⟨μ2,ρ2,M2,x2,hE2,hM2,q2⟩
  cases m with
  |zero=>exact q2.elim
  | succ m =>
    unfold zey at q2
    cases e2:w M2 with
    |none=>rw [e2] at q2;exact q2.elim
    | some ds =>
      rw [e2] at q2
      dsimp only at q2
      obtain ⟨go,stop⟩:=wk μ2 H2 M2 ds x2.toExtW hM2 e2
      cases ed:ds[i]? with
      | none =>
        rw [ed] at q2
        exact .inl ⟨stop i (List.getElem?_eq_none_iff.mp ed),q2 σ2 H2 μ2 (x1.trans x2) hE2 hM2⟩
      | some d =>
        rw [ed] at q2
        obtain ⟨g1,g2⟩:=go i d ed
        refine .inr ⟨g1,fun σ' H'=>∃μ' ρ' M',Ext μ1 H1 μ' H'/\zbu fa X.K μ' H' σ' ρ'/\RelM fa X.K μ' H' M'/\okE (zey (zgw t gb) w m (i+1) (.next ρ') M') (FlP fa X μ H D'),fun σ' H' z=>⟨m,by omega,z⟩,fun y H3 hy=>?_⟩
        obtain ⟨x3,hM3,r3⟩:=g2 y H3 hy
        have q2:okE (((ofO M2 (zde t d ρ2)).bind fun ρ1 M=>gb ρ1 M).bind (zey (zgw t gb) w m (i+1))) (FlP fa X μ H D'):=q2
        obtain ⟨fl,M4,e4,q4⟩:=zbg q2
        obtain ⟨ρ4,M5,e5,e6⟩:=ze2 e4
        cases eb:zde t d ρ2 with
        |none=>rw [eb] at e5;cases e5
        | some ρ5 =>
          rw [eb] at e5
          cases e5
          refine ⟨μ2,ρ2,_,d,ρ4,hE2.ext x3,hM3,r3,eb,fun σ5 hE5=>⟨μ2,ρ4,_,hE5,hM3,?_⟩⟩
          rw [e6]
          cases fl with
          |next ρ6=>exact fun σ6 H6 μ6 x6 hE6 hM6=>⟨μ6,ρ6,M4,(x2.trans x3).trans x6,hE6,hM6,q4⟩
          |ret d6=>exact (zlf rfl m (i+1) M4 q4).ext ((x1.trans x2).trans x3)
          |exc x6 ρ6=>exact (zlf rfl m (i+1) M4 q4).ext ((x1.trans x2).trans x3)
end
end LD
namespace LD
open PySem PySem.Spec PyProof.Rows L2
abbrev FF:Value->Shared->Prop:=fun _ _=>False
section
variable {prog:Program}{w:World}{A:Around}{s:Shared}
theorem zy1 {elt:Expr}{gens:List Comprehension}{scope:Scope}{pos p:Pos}{k:Nat}{it acc:Value}{env:PySem.Env}{R:Result->Shared->Prop}{target:Expr}{body:Sem Unit}
 (heq:compTurn (.ListComp elt gens scope pos) k it acc env=(standAt p >>= fun _=>pyNext it >>= fun r=>match r with
  |none=>pure (.done .next)
  |some v=>letOwnedTupleGo target it v >>= fun _=>assign target env v >>= fun _=>body >>= fun _=>again (.compLoop (.ListComp elt gens scope pos) k it acc env)))
 (I:Nat->Shared->Prop)
 (turn:∀n s,I n s->wpAny (model prog w) A (pyNext it) (fun r s₁=>match r with
  |none=>R (.ok .next) s₁
  |some v=>wpAny (model prog w) A (letOwnedTupleGo target it v) (fun _ s₂=>wpAny (model prog w) A (assign target env v) (fun _ s₃=>wpAny (model prog w) A body (fun _ s₄=>∃m,m<n/\I m s₄) FF s₃) FF s₂) FF s₁) FF s)
 (n:Nat) (h:I n s):codeAny (model prog w) A (.compLoop (.ListComp elt gens scope pos) k it acc env) R s:=by
 refine codeAny_loop rfl I (fun n s hI=>?_) n h
 show wpAny _ _ ((compTurn (.ListComp elt gens scope pos) k it acc env).onRaise (fun x=>do noteFrame x env;theTreesLotGoes x)) _ _ s
 refine wpAny_noted ?_
 rw [heq]
 refine wpAny_noRaise ?_
 refine tqa (wpAny_standAt (tqa (thn (turn n s hI) fun r s₁ h₁=>?_)))
 cases r with
 |none=>exact tqb h₁
 | some v =>
   refine tqa (thn h₁ fun _ s₂ h₂=>?_)
   exact tqa (thn h₂ fun _ s₃ h₃=>tqa (thn h₃ fun _ s₄ h₄=>tqb ⟨rfl,h₄⟩))
theorem zr1 (elt target iter:Expr)(gs:List Comprehension)(scope:Scope)(pos:Pos)(it acc:Value)(env:PySem.Env) :
 compTurn (.ListComp elt [⟨target,iter,[],0⟩] scope pos) 0 it acc env=(standAt iter.pos >>= fun _=>pyNext it >>= fun r=>match r with
  |none=>pure (.done .next)
  |some v=>letOwnedTupleGo target it v >>= fun _=>assign target env v >>= fun _=>(eval elt env >>= fun x=>call (.builtin "list.append") [acc,x] >>= fun _=>pure ()) >>= fun _=>again (.compLoop (.ListComp elt [⟨target,iter,[],0⟩] scope pos) 0 it acc env)):=by rfl
theorem turn_if (elt target iter c:Expr)(scope:Scope)(pos:Pos)(it acc:Value)(env:PySem.Env) :
 compTurn (.ListComp elt [⟨target,iter,[c],0⟩] scope pos) 0 it acc env=(standAt iter.pos >>= fun _=>pyNext it >>= fun r=>match r with
  |none=>pure (.done .next)
  |some v=>letOwnedTupleGo target it v >>= fun _=>assign target env v >>= fun _=>(isTrue c env (eval c env) >>= fun ok=>if ok=true then (eval elt env >>= fun x=>call (.builtin "list.append") [acc,x] >>= fun _=>pure ()) else pure ()) >>= fun _=>again (.compLoop (.ListComp elt [⟨target,iter,[c],0⟩] scope pos) 0 it acc env)):=by
 rw [compTurn_list]
 refine congrArg _ (funext fun _=>congrArg _ (funext fun r=>?_))
 cases r with
 |none=>rfl
 | some v =>
   simp only [List.forIn_cons,List.forIn_nil,if_true,bind_assoc,pure_bind]
   refine congrArg _ (funext fun _=>congrArg _ (funext fun _=>congrArg _ (funext fun ok=>?_)))
   cases ok<;>simp
theorem zln (env:PySem.Env):∀(ns:List (Str×NameKind)) (cs:List (Str×Addr)),(∀y∈ns,y.2=.free->∃c,env.cells.lookup y.1=some c)->(∀x c,cs.lookup x=some c->env.cells.lookup x=some c)->
 ∃ cl, (forIn ns cs fun (y : Str × NameKind) (r : List (Str × Addr)) => if (y.2 == NameKind.free) = true then cellOf env y.1 >>= fun a => pure (ForInStep.yield ((y.1, a) :: r)) else pure (ForInStep.yield r) : Sem _) = pure cl /\
   (∀x c,cl.lookup x=some c->env.cells.lookup x=some c)/\(∀x c,cs.lookup x=some c->∃c',cl.lookup x=some c')/\∀y∈ns,y.2=.free->∃c,cl.lookup y.1=some c
 |[],cs,_,h2=>⟨cs,by simp,h2,fun x c e=>⟨c,e⟩,fun y hy=>nomatch hy⟩
 | (n, k) :: ns, cs, h1, h2 => by
   by_cases hk:k=.free
   ·subst hk
    obtain ⟨a,ha⟩:=h1 (n,.free) List.mem_cons_self rfl
    have lk:∀x c,((n,a)::cs).lookup x=some c->env.cells.lookup x=some c:=fun x c e=>by
     rw [List.lookup_cons] at e
     split at e
     ·next q=>cases e;rw [eq_of_beq q];exact ha
     ·exact h2 x c e
    obtain ⟨cl,e,p1,p2,p3⟩:=zln env ns ((n,a)::cs) (fun y hy=>h1 y (List.mem_cons_of_mem _ hy)) lk
    refine ⟨cl,?_,p1,fun x c q=>?_,fun y hy hf=>?_⟩
    ·rw [List.forIn_cons]
     have ec:cellOf env n=pure a:=by unfold cellOf;rw [ha]
     simp only [beq_self_eq_true,if_true,ec]
     exact e
    ·by_cases hx:x=n
     ·exact p2 x a (by rw [List.lookup_cons,hx];simp)
     ·exact p2 x c (by rw [List.lookup_cons,beq_eq_false_iff_ne.mpr hx];exact q)
    ·rcases List.mem_cons.mp hy with z|z
     ·subst z;exact p2 n a (by simp [List.lookup_cons])
     ·exact p3 y z hf
   ·obtain ⟨cl,e,p1,p2,p3⟩:=zln env ns cs (fun y hy=>h1 y (List.mem_cons_of_mem _ hy)) h2
    refine ⟨cl,?_,p1,p2,fun y hy hf=>?_⟩
    ·rw [List.forIn_cons]
     have eb:(k==NameKind.free)=false:=by simpa using hk
     simp only [eb,Bool.false_eq_true,if_false]
     exact e
    ·rcases List.mem_cons.mp hy with z|z
     ·subst z;exact absurd hf hk
     ·exact p3 y z hf
theorem zwr {scope:Scope}{env:PySem.Env}(h:∀y∈scope.names,y.2=.free->∃c,env.cells.lookup y.1=some c) :
 ∃cl,closureFor scope env=pure cl/\(∀x c,cl.lookup x=some c->env.cells.lookup x=some c)/\∀y∈scope.names,y.2=.free->∃c,cl.lookup y.1=some c:=by
 obtain ⟨cl,e,p1,_,p3⟩:=zln env scope.names [] h (fun x c q=>nomatch q)
 exact ⟨cl,by unfold closureFor;simp only [bind_pure];exact e,p1,p3⟩
end
end LD
namespace LD
open PySem PySem.Spec PyProof.Rows L2
def zdr (X:Cx)(own bn:List Str)(scope:Scope)(cl:List (Str×Addr))(C:Addr)(fp:List Addr)(s:Shared)(H:Hp):Cx:=
 {X with N:=own++bn,s₀:=s,H₀:=H,env:=compEnvC scope cl C X.env,outer:=X.stack,ex:=fp,fn:=fun _=>false,pn:=[],xe:=FF}
theorem zg5 {env:PySem.Env}:∀{names:List (Str×NameKind)}{x:Str}{k:NameKind},
 (names.map fun (n,k)=>if (k==NameKind.free&&env.scope.kind==.function&&env.kindOf n==some .cell) then (n,NameKind.cell) else (n,k)).lookup x=some k->
 ∃k0,(x,k0)∈names/\names.lookup x=some k0/\(k=k0\/(k0=.free/\k=.cell))
 |[],_,_,h=>by cases h
 | (n, k0) :: r, x, k, h => by
   have ih:=@zg5 env r x k
   have h:List.lookup x ((if (k0==NameKind.free&&env.scope.kind==.function&&env.kindOf n==some .cell)=true then (n,NameKind.cell) else (n,k0))::_)=some k:=h
   cases hx:x==n with
   | true =>
     have e:=eq_of_beq hx
     subst e
     refine ⟨k0,List.mem_cons_self,by simp [List.lookup_cons],?_⟩
     split at h
     ·next c=>
      simp [List.lookup_cons] at h
      simp at c
      exact .inr ⟨c.1.1,h.symm⟩
     ·simp [List.lookup_cons] at h
      exact .inl h.symm
   | false =>
     have h':List.lookup x (r.map fun (n,k)=>if (k==NameKind.free&&env.scope.kind==.function&&env.kindOf n==some .cell) then (n,NameKind.cell) else (n,k))=some k:=by
      split at h<;>simpa [List.lookup_cons,hx] using h
     obtain ⟨k1,h1,h2,h3⟩:=ih h'
     exact ⟨k1,List.mem_cons_of_mem _ h1,by simp [List.lookup_cons,hx];exact h2,h3⟩
theorem zof {α β:Type}{R:α->β->Prop}:∀{l:List α}{r:List β}{i:Nat}{x:α},Paired R l r->l[i]?=some x->∃y,r[i]?=some y/\R x y
 |_,_,_,_,.nil,e=>by simp at e
 |_,_,0,_,.cons p _,e=>by simp at e;subst e;exact ⟨_,rfl,p⟩
 | _, _, i + 1, x, .cons _ t, e => by
   obtain ⟨y,h1,h2⟩:=zof (i:=i) (x:=x) t (by simpa using e)
   exact ⟨y,by simpa using h1,h2⟩
structure zfw (X:Cx) (own bn:List Str) (scope:Scope):Prop where
 kind:scope.kind=.function
 nocell:∀y∈scope.names,y.2≠.cell
 loc:∀y∈scope.names,y.2=.local->scope.names.lookup y.1=some .local
 free:∀y∈scope.names,y.2=.free->X.env.kindOf y.1=some .cell\/X.env.kindOf y.1=some .free
 dis:Paired (fun b x=>(b=x/\scope.names.lookup x≠some .local)\/scope.names.lookup b=none) bn X.N
section
variable {X:Cx}{pins:List (Addr×Obj)}{σ:L2.St}{H:Hp}{s:Shared}{fp:List Addr}{scope:Scope}{cl:List (Str×Addr)}{own bn:List Str}
structure Cl (X:Cx) (scope:Scope) (cl:List (Str×Addr)):Prop where
 sub:∀x c,cl.lookup x=some c->X.env.cells.lookup x=some c
 has:∀y∈scope.names,y.2=.free->∃c,cl.lookup y.1=some c
theorem z5e (I:Inv X pins σ H s)(S:zfw X own bn scope)(hcl:Cl X scope cl)(hfp:∀b∈fp,zf8 X pins H b)(hfo:∀b∈fp,∃o,s.heap.get? b=some o) :
 (zdr X own bn scope cl s.heap.objs.size fp s H).Ok where
 mod:=I.ok.mod
 kind:=S.kind
 glob:=I.ok.glob
 blt:=I.ok.blt
 above:=tqg _
 inj:=fun x y c h1 h2=>I.ok.inj x y c (hcl.sub x c h1) (hcl.sub y c h2)
 has:=fun x h=>by
  have key:∀k,(relabel scope X.env).names.lookup x=some k->(k=.cell\/k=.free)->∃c,cl.lookup x=some c:=fun k hk hh=>by
   obtain ⟨k0,h1,h2,h3⟩:=zg5 hk
   have hf:k0=.free:=by
    rcases h3 with e|⟨e,_⟩
    ·rcases hh with z|z
     ·exact absurd (e.symm.trans z) (S.nocell _ h1)
     ·exact e.symm.trans z
    ·exact e
   exact hcl.has _ h1 hf
  rcases h with h|h
  ·exact key _ h (.inl rfl)
  ·exact key _ h (.inr rfl)
 cab:=fun x c h=>nomatch h
 hd:=I.ok.hd
 frames:=I.ok.frames
 stk:=.inl rfl
 exf := fun b hb => ⟨fun e => by
     obtain ⟨o,ho⟩:=hfo b hb
     exact absurd (tqd ho) (by rw [e];exact tqn _),fun x c e=>(hfp b hb).2.2.2.2.1 x c (hcl.sub x c e)⟩
 bs:=fun b o e=>I.bs b o e
 bsz:=tqh I.ok.bsz I.sz
 noex:=fun b o e hb=>by
  rcases (hfp b hb).2.2.2.1 with z|z
  ·exact I.ok.noex b o e z
  ·exact absurd (tqi (tqd e) (tqh I.ok.bsz z)) (tqn _)
 exfs:=fun b hb hx=>by
  rcases List.mem_cons.mp (I.stkSub b hx) with e|e
  ·exact (hfp b hb).2.1 e
  ·exact (hfp b hb).2.2.1 e
 funs:=I.stack
 frf:=fun b hb=>I.stkFree b hb
theorem z17 (I:Inv X pins σ H s)(S:zfw X own bn scope)(hcl:Cl X scope cl)(hfp:∀b∈fp,zf8 X pins H b)(hfo:∀b∈fp,∃o,s.heap.get? b=some o){h':Heap}{t':Nat}{m:Str->Option Value}
 (hn:h'.Ns s.heap.objs.size m) (hk:∀b o,s.heap.get? b=some o->h'.get? b=some o) :
 Inv (zdr X own bn scope cl s.heap.objs.size fp s H) [] (List.replicate own.length none++σ) H {s with heap:=h',toks:=t'} where
 ok:=z5e I S hcl hfp hfo
 os:=rfl
 bare:=I.bare
 base:=Un.kept hk
 loc:=by
  refine ⟨m,hn,fun i x v e1 e2 hv=>?_⟩
  have e1:(own++bn)[i]?=some x:=e1
  have hi:own.length<=i:=by
   by_cases q:i<own.length
   ·rw [List.getElem?_append_left (by simpa using q),List.getElem?_replicate] at e2
    simp [q] at e2
   ·omega
  rw [List.getElem?_append_right hi] at e1
  rw [List.getElem?_append_right (by simpa using hi)] at e2
  simp only [List.length_replicate] at e2
  have hx:X.N[i-own.length]?=some x/\scope.names.lookup x≠some .local:=by
   rcases zof S.dis e1 with ⟨y,h1,⟨h2,h3⟩|h2⟩
   ·subst h2;exact ⟨h1,h3⟩
   ·exfalso
    have no:∀k,(relabel scope X.env).names.lookup x≠some k:=fun k hk=>by
     obtain ⟨k0,_,h3,_⟩:=zg5 hk
     rw [h2] at h3;cases h3
    rcases hv with z|z|z
    ·exact no _ z
    ·exact no _ z
    ·exact no _ z
  have key:∀k,(relabel scope X.env).names.lookup x=some k->(k=.local\/k=.cell\/k=.free)->∃c,(k=.cell\/k=.free)/\cl.lookup x=some c/\(X.env.kindOf x=some .cell\/X.env.kindOf x=some .free):=fun k hk2 hh=>by
   obtain ⟨k0,h1,h2,h3⟩:=zg5 hk2
   have nl:k0≠.local:=fun e=>hx.2 (by rw [h2,e])
   have hf:k0=.free:=by
    rcases h3 with e|⟨e,_⟩
    ·rcases hh with z|z|z
     ·exact absurd (e.symm.trans z) nl
     ·exact absurd (e.symm.trans z) (S.nocell _ h1)
     ·exact e.symm.trans z
    ·exact e
   obtain ⟨c,hc⟩:=hcl.has _ h1 hf
   refine ⟨c,?_,hc,S.free _ h1 hf⟩
   rcases hh with z|z|z
   ·rcases h3 with e|⟨_,e⟩
    ·rw [hf] at e;rw [e] at z;cases z
    ·rw [e] at z;cases z
   ·exact .inl z
   ·exact .inr z
  have fin:∀k,(relabel scope X.env).names.lookup x=some k->(k=.local\/k=.cell\/k=.free)->∃u,RelV v u/\Look (compEnvC scope cl s.heap.objs.size X.env) h' m x u:=fun k hk2 hh=>by
   obtain ⟨c,h1,h2,h3⟩:=key k hk2 hh
   obtain ⟨m0,_,hl⟩:=I.loc
   obtain ⟨u,r,l⟩:=hl _ x v hx.1 e2 (.inr h3)
   refine ⟨u,r,.inr ⟨?_,c,h2,?_⟩⟩
   ·rcases h1 with z|z
    ·subst z;exact .inl hk2
    ·subst z;exact .inr hk2
   ·rcases l with ⟨z,_⟩|⟨_,c',hc',hcell⟩
    ·rcases h3 with q|q
     ·rw [z] at q;cases q
     ·rw [z] at q;cases q
    ·rw [hcl.sub x c h2] at hc';cases hc'
     obtain ⟨o,ho,hd⟩:=hcell
     exact ⟨o,hk _ _ ho,hd⟩
  rcases hv with z|z|z
  ·exact fin _ z (.inl rfl)
  ·exact fin _ z (.inr (.inl rfl))
  ·exact fin _ z (.inr (.inr rfl))
 cell:=fun x c e=>by
  obtain ⟨v,o,ho,hd⟩:=I.cell x c (hcl.sub x c e)
  exact ⟨v,o,hk _ _ ho,hd⟩
 free:=I.hok.fresh (tqg _)
 freeC:=fun x c e=>I.freeC x c (hcl.sub x c e)
 pin:=fun p hp=>nomatch hp
 hok:=I.hok.kept hk
 len:=by
  show (List.replicate own.length none++σ).length=(own++bn).length
  have:=Paired.length S.dis
  simp [I.len,this]
theorem comp_back (I:Inv X pins σ H s)(hfp:∀b∈fp,zf8 X pins H b){pins':List (Addr×Obj)}{σ':L2.St}{H':Hp}{s':Shared}{C:Addr}(I':Inv (zdr X own bn scope cl C fp s H) pins' σ' H' s'):Inv X pins σ H' s':=
 I.call' (ch:=fp) I'.os I'.base I'.hok I'.bare fun b hb=>⟨(hfp b hb).2.2.2.1,(hfp b hb).2.1,(hfp b hb).2.2.2.2.1,(hfp b hb).2.2.2.2.2⟩
theorem zy2 (I:Inv X pins σ H s){σ':L2.St}{H':Hp}{s':Shared}(hf:H' s.heap.objs.size=none)(I':Inv X pins σ' H' s'){h'':Heap}(hs:Heap.SameBut s.heap.objs.size s'.heap h''):Inv X pins σ' H' {s' with heap:=h''}:=
 I'.turned (t':=s'.toks) (fun b o hb e=>(hs.2 b hb).trans e) hf (Nat.ne_of_gt I.lt) (.inr I.sz) (fun x c e z=>by
  obtain ⟨v,q⟩:=I.cell x c e
  exact absurd q.lt (by rw [z];exact tqn _)) fun p hp z=>absurd (tqd (I.pin p hp).1) (by rw [z];exact tqn _)
end
end LD
namespace LD
open PySem PySem.Spec PyProof.Rows L2
structure zfu (a:Addr) (μ:Mu) (H:Hp) (μ':Mu) (H':Hp):Prop extends ExtW μ H μ' H' where
 pr:μ'.priv=μ.priv
 pk:∀b∈μ.priv,b≠a->H' b=H b
theorem zfu.refl {a:Addr}{μ:Mu}{H:Hp}:zfu a μ H μ H:=⟨.refl,rfl,fun _ _ _=>rfl⟩
theorem zfu.trans {a:Addr}{μ μ1 μ2:Mu}{H H1 H2:Hp}(x:zfu a μ H μ1 H1)(y:zfu a μ1 H1 μ2 H2):zfu a μ H μ2 H2:=
 ⟨x.toExtW.trans y.toExtW,y.pr.trans x.pr,fun b hb n=>(y.pk b (by rw [x.pr];exact hb) n).trans (x.pk b hb n)⟩
theorem Ext.toD {a:Addr}{μ μ':Mu}{H H':Hp}(x:Ext μ H μ' H'):zfu a μ H μ' H':=⟨x.toExtW,x.pr,fun b hb _=>x.pk b hb⟩
def slots:Tgt->List Nat
 |.one i=>[i]
 |.tup l=>l
def Clear (W:List Nat)(Z:Env):Prop:=∀i∈W,∀d,Z[i]?≠some (some d)
section
variable {fa:Fa}{K:PySem.W.Frag}{μ μ':Mu}{H H':Hp}{σ:L2.St}{Z ρ1:Env}{M:Mem}{a:Addr}
theorem zbu.weak (h:zbu fa K μ H σ ρ1)(hl:ρ1.length=Z.length)(w:∀(i:Nat) d,Z[i]?=some (some d)->ρ1[i]?=some (some d)):zbu fa K μ H σ Z:=
 ⟨h.len.trans hl,fun i d e=>h.at' i d (w i d e)⟩
theorem zn3:∀{l:List Nat}{ds:List D}{Z ρ1:Env},zkj l ds Z=some ρ1->ρ1.length=Z.length/\∀i,i∉l->ρ1[i]?=Z[i]?
 |[],[],Z,ρ1,h=>by cases h;exact ⟨rfl,fun _ _=>rfl⟩
 |_::_,[],_,_,h=>by cases h
 |[],_::_,_,_,h=>by cases h
 | j :: l, d :: ds, Z, ρ1, h => by
   obtain ⟨h1,h2⟩:=zn3 (l:=l) (ds:=ds) h
   refine ⟨by simpa using h1,fun i hi=>?_⟩
   rw [h2 i (fun z=>hi (List.mem_cons_of_mem _ z)),List.getElem?_set_ne (fun z=>hi (by rw [z];exact List.mem_cons_self))]
theorem zqz {t:Tgt}{d:D}(h:zde t d Z=some ρ1):ρ1.length=Z.length/\∀i,i∉slots t->ρ1[i]?=Z[i]?:=by
 cases t with
 | one j =>
   have h:some (Z.set j (some d))=some ρ1:=h
   cases h
   exact ⟨by simp,fun i hi=>List.getElem?_set_ne (fun z=>hi (by rw [z];exact List.mem_cons_self))⟩
 | tup l =>
   cases d with
   |tup ds=>exact zn3 h
   |_=>cases h
theorem zbu.unbind {t:Tgt}{d:D}(h:zde t d Z=some ρ1)(c:Clear (slots t) Z)(r:zbu fa K μ H σ ρ1):zbu fa K μ H σ Z:=by
 obtain ⟨h1,h2⟩:=zqz h
 refine r.weak h1 fun i d e=>?_
 by_cases hi:i∈slots t
 ·exact absurd e (c i hi d)
 ·rw [h2 i hi];exact e
theorem RelM.writeP (h:RelM fa K μ H M){ws vs:List V}(e:a∈μ.priv)(hH:H a=some (.lst vs)):RelM fa K μ (upd H a (.lst ws)) M:=by
 have x:ExtW μ H μ (upd H a (.lst ws)):=ExtW.write hH (.inr e)
 refine ⟨fun k ds q=>?_,h.out,h.inj,fun b hb=>⟨?_,(h.pv b hb).2⟩⟩
 ·obtain ⟨b,us,h1,h2,h3⟩:=h.at' k ds q
  have nb:b≠a:=fun z=>(h.pv a e).2 k (by rw [h1,z])
  exact ⟨b,us,h1,by rw [zaz nb];exact h2,h3.extW x⟩
 ·by_cases hb':b=a
  ·subst hb';exact ⟨ws,zcf⟩
  ·obtain ⟨us,q⟩:=(h.pv b hb).1
   exact ⟨us,by rw [zaz hb'];exact q⟩
theorem zfu.writeP {ws vs:List V}(e:a∈μ.priv)(hH:H a=some (.lst vs)):zfu a μ H μ (upd H a (.lst ws)):=
 ⟨ExtW.write hH (.inr e),rfl,fun b _ n=>by rw [zaz n]⟩
end
def WB (fa:Fa)(K:PySem.W.Frag)(a:Addr)(μ:Mu)(H:Hp)(Z:Env)(Q:L2.St->Hp->Prop)(acc:List D)(M':Mem):Prop:=
 ∀σ' H' μ' vs',zfu a μ H μ' H'->zbu fa K μ' H' σ' Z->RelM fa K μ' H' M'->H' a=some (.lst vs')->za7 fa K μ' H' acc vs'->Q σ' H'
theorem WB.ext {fa:Fa}{K:PySem.W.Frag}{a:Addr}{μ μ1:Mu}{H H1:Hp}{Z:Env}{Q:L2.St->Hp->Prop}{acc:List D}{M':Mem}(h:WB fa K a μ H Z Q acc M')(x:zfu a μ H μ1 H1):WB fa K a μ1 H1 Z Q acc M':=
 fun σ' H' μ' vs' y e m h1 h2=>h σ' H' μ' vs' (x.trans y) e m h1 h2
def DB (fa:Fa)(X:Cx)(a:Addr)(W:List Nat)(body:Sem Unit)(g:Env->List D->Mem->Res (List D)):Prop:=
 ∀ (pins : List (Addr × Obj)) (s : Shared) (σ : L2.St) (H : Hp) (Q : L2.St -> Hp -> Prop) (μ : Mu) (Z : Env) (M : Mem) (acc : List D) (vs : List V), Inv X pins σ H s -> zbu fa X.K μ H σ Z -> RelM fa X.K μ H M -> Clear W Z -> a ∈ μ.priv -> H a = some (.lst vs) -> za7 fa X.K μ H acc vs ->
   okE (g Z acc M) (WB fa X.K a μ H Z Q)->wpAny (model X.prog X.w) X.A body (fun _ s'=>∃σ' H',Inv X pins σ' H' s'/\Q σ' H') X.xe s
def zc5 (ge:Env->Mem->Res D):Env->List D->Mem->Res (List D):=fun Z acc M=>(ge Z M).bind fun x M=>if acc.length<sz then .ok (acc++[x]) M else .bad
def gIf (gc:Env->Mem->Res Bool)(g:Env->List D->Mem->Res (List D)):Env->List D->Mem->Res (List D):=fun Z acc M=>(gc Z M).bind fun k M=>if k then g Z acc M else .ok acc M
def zfg (t:Tgt)(g:Env->List D->Mem->Res (List D))(Z:Env):List D->D->Mem->Res (List D):=fun acc d M=>(ofO M (zde t d Z)).bind fun ρ1 M=>g ρ1 acc M
section
variable {fa:Fa}{X:Cx}{a:Addr}
theorem zox {elt:Expr}{ge:Env->Mem->Res D}(he:DE fa X elt ge):DB fa X a [] (eval elt X.env >>= fun x=>call (.builtin "list.append") [.ref a,x] >>= fun _=>pure ()) (zc5 ge):=by
 intro pins s σ H Q μ Z M acc vs I hE hM hc ha hH hr h
 obtain ⟨x,M1,e,q⟩:=zbg h
 split at q
 ·next hz=>
  have q:WB fa X.K a μ H Z Q (acc++[x]) M1:=q
  refine tqa (thn (he pins s σ H (fun v H1=>∃μ1,Ext μ H μ1 H1/\RelM fa X.K μ1 H1 M1/\Rep fa X.K μ1 H1 x v) I ⟨μ,Z,M,hE,hM,?_⟩) fun u s1 ⟨v,H1,I1,rv,μ1,x1,m1,r1⟩=>?_)
  ·rw [e];exact fun v H1 μ1 x1 m1 r1=>⟨μ1,x1,m1,r1⟩
  have hH1:H1 a=some (.lst vs):=by rw [x1.pk a ha];exact hH
  have ha1:a∈μ1.priv:=by rw [x1.pr];exact ha
  have hl:vs.length<sizeLine:=by rw [hr.length,<- zdt];exact hz
  refine tqa (thn (zqn pins s1 σ H1 (.ref a) [v] (.ref a) [u] (fun _ H2=>H2=upd H1 a (.lst (vs++[v]))) I1 rfl (.cons rv .nil) ⟨a,vs,v,rfl,rfl,hH1,hl,rfl⟩) fun _ s2 ⟨_,H2,I2,_,e2⟩=>tqb ⟨σ,H2,I2,?_⟩)
  subst e2
  have xd:zfu a μ1 H1 μ1 (upd H1 a (.lst (vs++[v]))):=zfu.writeP ha1 hH1
  exact q σ _ μ1 (vs++[v]) (x1.toD.trans xd) ((hE.ext x1).extW xd.toExtW) (m1.writeP ha1 hH1) zcf (((hr.ext x1).append (.one r1)).extW xd.toExtW)
 ·exact q.elim
theorem db_if {c:Expr}{gc:Env->Mem->Res Bool}{W:List Nat}{body:Sem Unit}{g:Env->List D->Mem->Res (List D)}(hc:DT fa X c gc)(hb:DB fa X a W body g) :
 DB fa X a W (isTrue c X.env (eval c X.env) >>= fun ok=>if ok=true then body else pure ()) (gIf gc g):=by
 intro pins s σ H Q μ Z M acc vs I hE hM hw ha hH hr h
 obtain ⟨k,M1,e,q⟩:=zbg h
 refine tqa (thn (hc pins s σ H (fun b H1=>b=k/\∃μ1,Ext μ H μ1 H1/\RelM fa X.K μ1 H1 M1) I ⟨μ,Z,M,hE,hM,?_⟩) fun b s1 ⟨H1,I1,eb,μ1,x1,m1⟩=>?_)
 ·rw [e];exact fun H1 μ1 x1 m1=>⟨rfl,μ1,x1,m1⟩
 subst eb
 have hH1:H1 a=some (.lst vs):=by rw [x1.pk a ha];exact hH
 have ha1:a∈μ1.priv:=by rw [x1.pr];exact ha
 cases b with
 | true =>
   rw [if_pos rfl]
   exact hb pins s1 σ H1 Q μ1 Z M1 acc vs I1 (hE.ext x1) m1 hw ha1 hH1 (hr.ext x1) (zbo q fun _ _ w=>w.ext x1.toD)
 | false =>
   rw [if_neg tqj]
   have q:WB fa X.K a μ H Z Q acc M1:=q
   exact tqb ⟨σ,H1,I1,q σ H1 μ1 vs x1.toD (hE.ext x1) m1 hH1 (hr.ext x1)⟩
theorem z5f {elt:Expr}{gens:List Comprehension}{scope:Scope}{pos p:Pos}{k:Nat}{tg:Expr}{body:Sem Unit}{t:Tgt}{W:List Nat}{g:Env->List D->Mem->Res (List D)}{it:Addr}{fp:List Addr}{tn:Nat->Heap->Prop}{J:It}
 (heq:compTurn (.ListComp elt gens scope pos) k (.ref it) (.ref a) X.env=(standAt p >>= fun _=>pyNext (.ref it) >>= fun r=>match r with
  |none=>pure (.done .next)
  |some v=>letOwnedTupleGo tg (.ref it) v >>= fun _=>assign tg X.env v >>= fun _=>body >>= fun _=>again (.compLoop (.ListComp elt gens scope pos) k (.ref it) (.ref a) X.env)))
 (hx:X.xe=FF) (hcalm:X.calm=true) (T:Turn X.prog X.w X.K tg J fp it tn) (hg:PG X tg (gT fa X.K t)) (hb:DB fa X a W body g) (hW:∀i∈W,i∉slots t)
 {pins:List (Addr×Obj)}{s:Shared}{σ:L2.St}{H:Hp}{Q:L2.St->Hp->Prop}{μ:Mu}{Z:Env}{M:Mem}{acc:List D}{vs:List V}{w:Walk} (I:Inv X pins σ H s) (st:tn 0 s.heap) (hf:∀b∈fp,zf8 X pins H b) (hE:zbu fa X.K μ H σ Z) (hM:RelM fa X.K μ H M)
 (hcl:Clear (slots t++W) Z) (ha:a∈μ.priv) (hH:H a=some (.lst vs)) (hr:za7 fa X.K μ H acc vs) (wk:zes fa X.K μ H w J) (q:okE (zej (zfg t g Z) w acc M) (WB fa X.K a μ H Z Q)) :
 codeAny (model X.prog X.w) X.A (.compLoop (.ListComp elt gens scope pos) k (.ref it) (.ref a) X.env) (fun r s'=>r=.ok .next/\∃σ' H',Inv X pins σ' H' s'/\Q σ' H') s:=by
 have stat:∀{H':Hp},(∀b∈fp,H' b=none)->∀b∈fp,zf8 X pins H' b:=fun hn b hb=>⟨hn b hb,(hf b hb).2⟩
 have clt:Clear (slots t) Z:=fun i hi=>hcl i (List.mem_append_left _ hi)
 have clW:∀d ρ1,zde t d Z=some ρ1->Clear W ρ1:=fun d ρ1 e i hi d' z=>by
  rw [(zqz e).2 i (hW i hi)] at z
  exact hcl i (List.mem_append_right _ hi) d' z
 let P:Nat->Nat->Shared->Prop:=fun m i s'=>∃σ' H' μ' M' acc' vs',Inv X pins σ' H' s'/\tn i s'.heap/\(∀b∈fp,H' b=none)/\zfu a μ H μ' H'/\zbu fa X.K μ' H' σ' Z/\RelM fa X.K μ' H' M'/\H' a=some (.lst vs')/\za7 fa X.K μ' H' acc' vs'/\
  okE (zey (zfg t g Z) w m i acc' M') (WB fa X.K a μ H Z Q)
 have P0:∃m,P m 0 s:=⟨_,σ,H,μ,M,acc,vs,I,st,fun b hb=>(hf b hb).1,.refl,hE,hM,hH,hr,q⟩
 obtain ⟨m0,P0⟩:=P0
 have hturn:∀(n:Nat) (i:Nat) (s3:Shared),P n i s3->wpAny (model X.prog X.w) X.A (pyNext (.ref it)) (fun r s₁=>match r with
  |none=>(∃σ' H',Inv X pins σ' H' s₁/\Q σ' H')
  |some v=>wpAny (model X.prog X.w) X.A (letOwnedTupleGo tg (.ref it) v) (fun _ s₂=>wpAny (model X.prog X.w) X.A (assign tg X.env v) (fun _ s₃=>wpAny (model X.prog X.w) X.A body (fun _ s₄=>∃m,m<n/\P m (i+1) s₄) FF s₃) FF s₂) FF s₁) FF s3:=by
  rintro n i s3 ⟨σ3,H3,μ3,M3,acc3,vs3,I3,st3,fr3,x3,hE3,hM3,hH3,hr3,q3⟩
  have ha3:a∈μ3.priv:=by rw [x3.pr];exact ha
  have one:∀(d:D) (rest:List D->Mem->Res (List D)) (next:List D->Mem->Prop),J.go i H3->(∀x H',J.yld i H3 x H'->Ext μ3 H3 μ3 H'/\RelM fa X.K μ3 H' M3/\Rep fa X.K μ3 H' d x)->okE ((zfg t g Z acc3 d M3).bind rest) (WB fa X.K a μ H Z Q)->
   (∀σ' H' μ' M' acc' vs' s',Inv X pins σ' H' s'->tn (i+1) s'.heap->(∀b∈fp,H' b=none)->zfu a μ H μ' H'->zbu fa X.K μ' H' σ' Z->RelM fa X.K μ' H' M'->H' a=some (.lst vs')->za7 fa X.K μ' H' acc' vs'->okE (rest acc' M') (WB fa X.K a μ H Z Q)->∃m,m<n/\P m (i+1) s')->
   wpAny (model X.prog X.w) X.A (pyNext (.ref it)) (fun r s₁=>match r with
    |none=>(∃σ' H',Inv X pins σ' H' s₁/\Q σ' H')
    |some v=>wpAny (model X.prog X.w) X.A (letOwnedTupleGo tg (.ref it) v) (fun _ s₂=>wpAny (model X.prog X.w) X.A (assign tg X.env v) (fun _ s₃=>wpAny (model X.prog X.w) X.A body (fun _ s₄=>∃m,m<n/\P m (i+1) s₄) FF s₃) FF s₂) FF s₁) FF s3:=by
   intro d rest next go yl qd fin
   refine thn (T.item X rfl rfl rfl hcalm i pins s3 σ3 H3 FF I3 (stat fr3) st3 go) fun r s4 ⟨u,hr4,h4⟩=>?_
   subst hr4
   refine thn h4 fun _ s5 ⟨x,H5,I5,r5,y5,st5,fr5⟩=>?_
   obtain ⟨x5,hM5,rd⟩:=yl x H5 y5
   have I5':=I5.pinned (stat fr5) (T.obj _ _ st5)
   obtain ⟨acc6,M6,e6,q6⟩:=zbg qd
   obtain ⟨ρ1,M7,e7,e8⟩:=ze2 e6
   cases eb:zde t d Z with
   |none=>rw [eb] at e7;cases e7
   | some ρ2 =>
     rw [eb] at e7
     cases e7
     have hg':=hg _ s5 σ3 H5 x u (fun σ' H'=>H'=H5/\zbu fa X.K μ3 H5 σ' ρ1) I5' r5 ⟨μ3,Z,_,d,ρ1,hE3.ext x5,hM5,rd,eb,fun σ1 h1=>⟨rfl,h1⟩⟩
     rw [hx] at hg'
     refine thn hg' fun _ s6 ⟨σ6,H6,I6,eH,hE6⟩=>?_
     subst eH
     have hH6:H6 a=some (.lst vs3):=by rw [x5.pk a ha3];exact hH3
     have hb':=hb _ s6 σ6 H6 (fun σ' H'=>∃μ' vs',zfu a μ3 H6 μ' H'/\zbu fa X.K μ' H' σ' ρ1/\RelM fa X.K μ' H' M6/\H' a=some (.lst vs')/\za7 fa X.K μ' H' acc6 vs') μ3 ρ1 _ acc3 vs3 I6 hE6 hM5 (clW d ρ1 eb) ha3 hH6 (hr3.ext x5) (by
      rw [e8];exact fun σ' H' μ' vs' z1 z2 z3 z4 z5=>⟨μ',vs',z1,z2,z3,z4,z5⟩)
     rw [hx] at hb'
     refine thn hb' fun _ s7 ⟨σ7,H7,I7,μ7,vs7,x7,hE7,hM7,hH7,hr7⟩=>?_
     refine fin σ7 H7 μ7 M6 acc6 vs7 s7 I7.unpinned (T.keep _ _ _ st5 fun b hb o e=>(I7.pin (b,o) (List.mem_append_right _ (List.mem_append_right _ (zir hb e)))).1) (fun b hb=>?_) ((x3.trans x5.toD).trans x7) (hE7.unbind eb clt) hM7 hH7 hr7 q6
     obtain ⟨o,e,dd⟩:=T.obj _ _ st5 b hb
     exact (I7.pin (b,o) (List.mem_append_right _ (List.mem_append_right _ (zir hb e)))).2.1
  have stop:J.stop i H3->okE (.ok acc3 M3) (WB fa X.K a μ H Z Q)->wpAny (model X.prog X.w) X.A (pyNext (.ref it)) (fun r s₁=>match r with
   |none=>(∃σ' H',Inv X pins σ' H' s₁/\Q σ' H')
   |some v=>wpAny (model X.prog X.w) X.A (letOwnedTupleGo tg (.ref it) v) (fun _ s₂=>wpAny (model X.prog X.w) X.A (assign tg X.env v) (fun _ s₃=>wpAny (model X.prog X.w) X.A body (fun _ s₄=>∃m,m<n/\P m (i+1) s₄) FF s₃) FF s₂) FF s₁) FF s3:=fun hs q=>by
   refine thn (T.done X rfl rfl rfl hcalm i pins s3 σ3 H3 FF I3 (stat fr3) st3 hs) fun r s4 ⟨hr4,I4⟩=>?_
   subst hr4
   have q:WB fa X.K a μ H Z Q acc3 M3:=q
   exact ⟨σ3,H3,I4,q σ3 H3 μ3 vs3 x3 hE3 hM3 hH3 hr3⟩
  cases n with
  |zero=>exact q3.elim
  | succ n =>
    unfold zey at q3
    cases e2:w M3 with
    |none=>rw [e2] at q3;exact q3.elim
    | some ds =>
      rw [e2] at q3
      dsimp only at q3
      obtain ⟨go,stp⟩:=wk μ3 H3 M3 ds x3.toExtW hM3 e2
      cases ed:ds[i]? with
      | none =>
        rw [ed] at q3
        exact stop (stp i (List.getElem?_eq_none_iff.mp ed)) q3
      | some d =>
        rw [ed] at q3
        obtain ⟨g1,g2⟩:=go i d ed
        refine one d (zey (zfg t g Z) w n (i+1)) (fun _ _=>True) g1 g2 q3 ?_
        intro σ' H' μ' M' acc' vs' s' z1 z2 z3 z4 z5 z6 z7 z8 z9
        exact ⟨n,by omega,σ',H',μ',M',acc',vs',z1,z2,z3,z4,z5,z6,z7,z8,z9⟩
 refine zy1 heq (fun n s'=>∃i,P n i s') (fun n s3 ⟨i,h3⟩=>?_) m0 ⟨0,P0⟩
 refine thn (hturn n i s3 h3) fun r s1 h=>?_
 cases r with
 |none=>exact ⟨rfl,h⟩
 |some v=>exact thn h fun _ s2 h=>thn h fun _ s3 h=>thn h fun _ s4 ⟨m,hm,h⟩=>⟨m,hm,i+1,h⟩
end
end LD
namespace LD
open PySem PySem.Spec PyProof.Rows L2
section
variable {fa:Fa}{K:PySem.W.Frag}{μ1 μ':Mu}{H1 H':Hp}{M1 M':Mem}{a:Addr}
def muP (μ:Mu)(a:Addr):Mu:=⟨μ.pub,a::μ.priv⟩
theorem zl8 (h:RelM fa K μ1 H1 M1)(ha:H1 a=none)(o:HO):ExtW μ1 H1 (muP μ1 a) (upd H1 a o):=by
 have x:ExtW μ1 H1 μ1 (upd H1 a o):=(Ext.alloc h ha).toExtW
 refine ⟨x.mu,x.tups,fun b vs e n=>⟨(x.lsts b vs e n).1,fun z=>?_⟩,x.frzs,x.exts⟩
 rcases z with z|z
 ·exact n (.inl z)
 ·rcases List.mem_cons.mp z with z|z
  ·subst z;rw [ha] at e;cases e
  ·exact n (.inr z)
theorem zxu (h:RelM fa K μ1 H1 M1)(ha:H1 a=none)(vs:List V):RelM fa K (muP μ1 a) (upd H1 a (.lst vs)) M1:=by
 have x:=zl8 h ha (.lst vs)
 refine ⟨fun k ds e=>?_,h.out,h.inj,fun b hb=>?_⟩
 ·obtain ⟨b,ws,h1,h2,h3⟩:=h.at' k ds e
  exact ⟨b,ws,h1,by rw [zaz (zbi h2 ha)];exact h2,h3.extW x⟩
 ·rcases List.mem_cons.mp hb with z|z
  ·subst z
   exact ⟨⟨vs,zcf⟩,fun k e=>by
    obtain ⟨_,_,_,q,_⟩:=h.mu_lt e
    rw [ha] at q;cases q⟩
  ·obtain ⟨⟨ws,q⟩,n⟩:=h.pv b z
   exact ⟨⟨ws,by rw [zaz (zbi q ha)];exact q⟩,n⟩
theorem z3x {m:Bool}{acc:List D}{vs:List V}{Q:VK}(h:RelM fa K μ1 H1 M1)(ha:H1 a=none)(x:zfu a (muP μ1 a) (upd H1 a (.lst [])) μ' H')(hM:RelM fa K μ' H' M')(hH:H' a=some (.lst vs))(hr:za7 fa K μ' H' acc vs)
 (q:okE (zb6 m acc M') (zbs fa K μ1 H1 Q)):Q (.ref a) H':=by
 have na:a∉μ1.priv:=fun z=>h.pne ha z rfl
 have hp:μ'.priv=a::μ1.priv:=x.pr
 have nk:∀k,μ'.pub k≠some a:=(hM.pv a (by rw [hp];exact List.mem_cons_self)).2
 have x0:=zl8 h ha (.lst [])
 have xe:Ext μ1 H1 ⟨μ'.pub,μ1.priv⟩ H':=by
  refine ⟨⟨fun k b e=>x.mu k b e,fun b ws e=>x.tups b ws (x0.tups b ws e),fun b ws e n=>?_,fun b ob u e=>x.frzs b ob u (x0.frzs b ob u e),fun b o i e=>x.exts b o i (x0.exts b o i e)⟩,rfl,fun b hb=>?_⟩
  ·obtain ⟨z1,z2⟩:=x0.lsts b ws e n
   obtain ⟨z3,z4⟩:=x.lsts b ws z1 z2
   refine ⟨z3,fun z=>z4 ?_⟩
   rcases z with z|z
   ·exact .inl z
   ·exact .inr (by rw [hp];exact List.mem_cons_of_mem _ z)
  ·have nb:b≠a:=fun e=>na (by rw [<- e];exact hb)
   rw [x.pk b (List.mem_cons_of_mem _ hb) nb,zaz nb]
 have xw:ExtW μ' H' ⟨μ'.pub,μ1.priv⟩ H':=⟨fun _ _ e=>e,fun _ _ e=>e,fun b ws e n=>⟨e,fun z=>n (z.elim .inl fun z=>.inr (by rw [hp];exact List.mem_cons_of_mem _ z))⟩,fun _ _ _ e=>e,fun _ _ _ e=>e⟩
 have me:RelM fa K ⟨μ'.pub,μ1.priv⟩ H' M':=⟨fun k ds e=>let ⟨b,ws,h1,h2,h3⟩:=hM.at' k ds e;⟨b,ws,h1,h2,h3.extW xw⟩,hM.out,hM.inj,fun b hb=>hM.pv b (by rw [hp];exact List.mem_cons_of_mem _ hb)⟩
 have re:za7 fa K ⟨μ'.pub,μ1.priv⟩ H' acc vs:=hr.extW xw
 have nMt:¬ (⟨μ'.pub,μ1.priv⟩:Mu).Mt a:=fun z=>z.elim (fun ⟨k,e⟩=>nk k e) na
 unfold zb6 at q
 split at q
 ·cases m with
  | false =>
    have q:zbs fa K μ1 H1 Q (.lst acc) M':=q
    exact q (.ref a) H' _ xe me ⟨a,vs,rfl,⟨hH,nMt⟩,re⟩
  | true =>
    have q:zbs fa K μ1 H1 Q (.cell M'.length) (M'++[acc]):=q
    have pc:∀k b,(zf0 ⟨μ'.pub,μ1.priv⟩ M'.length a).pub k=some b->(k=M'.length/\b=a)\/(k≠M'.length/\μ'.pub k=some b):=fun k b e=>by
     have e:(if k=M'.length then some a else μ'.pub k)=some b:=e
     split at e
     ·next z=>cases e;exact .inl ⟨z,rfl⟩
     ·next z=>exact .inr ⟨z,e⟩
    have mc:∀k b,μ'.pub k=some b->(zf0 ⟨μ'.pub,μ1.priv⟩ M'.length a).pub k=some b:=fun k b e=>by
     show (if k=M'.length then some a else μ'.pub k)=some b
     split
     ·next z=>rw [z,hM.out _ (tqg _)] at e;cases e
     ·exact e
    have ac:(zf0 ⟨μ'.pub,μ1.priv⟩ M'.length a).pub M'.length=some a:=by
     show (if M'.length=M'.length then some a else _)=some a
     rw [if_pos rfl]
    have nc:∀b,¬ μ'.Mt b->¬ (zf0 ⟨μ'.pub,μ1.priv⟩ M'.length a).Mt b:=fun b n z=>by
     rcases z with ⟨k,z⟩|z
     ·rcases pc k b z with ⟨_,e⟩|⟨_,e⟩
      ·exact n (.inr (by rw [hp,e];exact List.mem_cons_self))
      ·exact n (.inl ⟨k,e⟩)
     ·exact n (.inr (by rw [hp];exact List.mem_cons_of_mem _ z))
    have xc:ExtW μ' H' (zf0 ⟨μ'.pub,μ1.priv⟩ M'.length a) H':=⟨mc,fun _ _ e=>e,fun b ws e n=>⟨e,nc b n⟩,fun _ _ _ e=>e,fun _ _ _ e=>e⟩
    have xe2:Ext μ1 H1 (zf0 ⟨μ'.pub,μ1.priv⟩ M'.length a) H':=by
     refine ⟨⟨fun k b e=>mc k b (x.mu k b e),xe.tups,fun b ws e n=>?_,xe.frzs,xe.exts⟩,rfl,xe.pk⟩
     obtain ⟨z1,z2⟩:=x0.lsts b ws e n
     obtain ⟨z3,z4⟩:=x.lsts b ws z1 z2
     exact ⟨z3,nc b z4⟩
    have mce:RelM fa K (zf0 ⟨μ'.pub,μ1.priv⟩ M'.length a) H' (M'++[acc]):=by
     refine ⟨fun k ds e=>?_,fun k hk=>?_,fun j k b e1 e2=>?_,fun b hb=>?_⟩
     ·by_cases hk:k<M'.length
      ·rw [List.getElem?_append_left hk] at e
       obtain ⟨b,ws,h1,h2,h3⟩:=hM.at' k ds e
       exact ⟨b,ws,mc k b h1,h2,h3.extW xc⟩
      ·have hk':k=M'.length:=by
        have:=(List.getElem?_eq_some_iff.mp e).1
        simp at this;omega
       subst hk'
       rw [List.getElem?_append_right (tqg _)] at e
       simp at e
       subst e
       exact ⟨a,vs,ac,hH,hr.extW xc⟩
     ·simp at hk
      show (if k=M'.length then some a else μ'.pub k)=none
      rw [if_neg (by omega)]
      exact hM.out k (by omega)
     ·rcases pc j b e1 with ⟨j1,j2⟩|⟨j1,j2⟩<;>rcases pc k b e2 with ⟨k1,k2⟩|⟨k1,k2⟩
      ·omega
      ·exact absurd (j2 ▸ k2) (nk k)
      ·exact absurd (k2 ▸ j2) (nk j)
      ·exact hM.inj j k b j2 k2
     ·have hb:b∈μ1.priv:=hb
      obtain ⟨z1,z2⟩:=hM.pv b (by rw [hp];exact List.mem_cons_of_mem _ hb)
      refine ⟨z1,fun k e=>?_⟩
      rcases pc k b e with ⟨_,e⟩|⟨_,e⟩
      ·exact na (e ▸ hb)
      ·exact z2 k e
    exact q (.ref a) H' _ xe2 mce ⟨a,rfl,ac⟩
 ·exact q.elim
end
section
variable {fa:Fa}{X:Cx}
def zcs (m:Bool)(n:Nat)(t:Tgt)(gw:Env->Mem->Res Walk)(g:Env->List D->Mem->Res (List D)):Env->Mem->Res D:=fun Z M=>
 (gw Z M).bind fun w M=>(zej (zfg t g (List.replicate n none++Z)) w [] M).bind (zb6 m)
def zo2 (X:Cx)(elt tg iter:Expr)(ifs:List Expr)(rest:List Comprehension)(scope:Scope)(pos:Pos)(body:Addr->PySem.Env->Sem Unit):Prop:=
 ∀(it a:Addr) (env:PySem.Env),compTurn (.ListComp elt (⟨tg,iter,ifs,0⟩::rest) scope pos) 0 (.ref it) (.ref a) env=(standAt iter.pos >>= fun _=>pyNext (.ref it) >>= fun r=>match r with
  |none=>pure (.done .next)
  |some v=>letOwnedTupleGo tg (.ref it) v >>= fun _=>assign tg env v >>= fun _=>body a env >>= fun _=>again (.compLoop (.ListComp elt (⟨tg,iter,ifs,0⟩::rest) scope pos) 0 (.ref it) (.ref a) env))
structure Block (fa:Fa) (X:Cx) (own bn:List Str) (scope:Scope) (tg:Expr) (t:Tgt) (W:List Nat) (body:Addr->PySem.Env->Sem Unit) (g:Env->List D->Mem->Res (List D)):Prop where
 pg:∀cl C fp s H,PG (zdr X own bn scope cl C fp s H) tg (gT fa X.K t)
 db:∀cl C fp s H a,DB fa (zdr X own bn scope cl C fp s H) a W (body a (compEnvC scope cl C X.env)) g
theorem zy3 {n:Nat}{W:List Nat}{Z:Env}(h:∀i∈W,i<n):Clear W (List.replicate n none++Z):=fun i hi d e=>by
 rw [List.getElem?_append_left (by simpa using h i hi),List.getElem?_replicate] at e
 simp [h i hi] at e
theorem z0e {K:PySem.W.Frag}{μ:Mu}{H:Hp}{σ:L2.St}{Z:Env}(n:Nat)(h:zbu fa K μ H σ Z):zbu fa K μ H (List.replicate n none++σ) (List.replicate n none++Z):=by
 refine ⟨by simp [h.len],fun i d e=>?_⟩
 by_cases hi:i<n
 ·rw [List.getElem?_append_left (by simpa using hi),List.getElem?_replicate] at e
  simp [hi] at e
 ·rw [List.getElem?_append_right (by simp;omega)] at e ⊢
  simp only [List.length_replicate] at e ⊢
  exact h.at' _ d e
theorem zoz {elt tg iter:Expr}{ifs:List Expr}{rest:List Comprehension}{scope:Scope}{pos p0:Pos}{own bn:List Str}{t:Tgt}{W:List Nat}{body:Addr->PySem.Env->Sem Unit}{gw:Env->Mem->Res Walk}{g:Env->List D->Mem->Res (List D)}{m:Bool}
 (S:zfw X own bn scope) (hcalm:X.calm=true) (hi:DI fa X tg iter gw) (B:Block fa X own bn scope tg t W body g) (hT:zo2 X elt tg iter ifs rest scope pos body) (hW:∀i∈W,i∉slots t) (hn:∀i∈slots t++W,i<own.length)
 (hs:∀x,foldedSetIterable iter X.env x=pure x) {use:Option (Value->Sem Unit)}{QQ:Value->Shared->Prop}
 {pins:List (Addr×Obj)}{s:Shared}{σ:L2.St}{H:Hp}{Q:VK}{μ:Mu}{Z:Env}{M:Mem} (I:Inv X pins σ H s) (hE:zbu fa X.K μ H σ Z) (hM:RelM fa X.K μ H M) (h:okE (zcs m own.length t gw g Z M) (zbs fa X.K μ H Q))
 (post:∀(a C:Addr) (s':Shared) (H':Hp),Inv X pins σ H' s'->Q (.ref a) H'->(∃m,s'.heap.Ns C m)->(∀σ2 H2 s2,Inv X pins σ2 H2 s2->(H' C=none->H2 C=none)->H2 C=none/\∀h'',Heap.SameBut C s2.heap h''->Inv X pins σ2 H2 {s2 with heap:=h''})->H' C=none->(C≠X.env.locals/\∀x c,X.env.cells.lookup x=some c->c≠C)->compPost (model X.prog X.w) X.A X.xe use QQ (.ref a) C (.ok .next) s') :
 wpAny (model X.prog X.w) X.A (comprehension (.ListComp elt (⟨tg,iter,ifs,0⟩::rest) scope pos) scope X.env p0 (newList []) false (eval iter X.env) use) QQ X.xe s:=by
 obtain ⟨w,M1,ew,q⟩:=zbg h
 obtain ⟨acc,M2,ea,q2⟩:=zbg q
 obtain ⟨cl,hcl,hsub,hhas⟩:=zwr (scope:=scope) (env:=X.env) fun y hy hf=>I.ok.has y.1 (S.free y hy hf)
 have CL:Cl X scope cl:=⟨hsub,hhas⟩
 refine wpAny_comprehension_free (use:=use) rfl hs hcl S.kind S.loc ?_
 refine thn (hi pins s σ H (fun J H1=>∃μ1,Ext μ H μ1 H1/\RelM fa X.K μ1 H1 M1/\zes fa X.K μ1 H1 w J) I ⟨μ,Z,M,hE,hM,?_⟩) fun v s1 h1=>thn h1 fun itv s2 h2=>?_
 ·rw [ew];exact fun J H1 μ1 x1 m1 wk=>⟨μ1,x1,m1,wk⟩
 obtain ⟨it,fp,tn,J,H2,ei,I2,T,st2,f2,μ2,x2,m2,wk⟩:=h2
 subst ei
 refine wpAny_newObj_type ?_
 have ha:H2 s2.heap.objs.size=none:=I2.hok.fresh (tqg _)
 have I3:Inv X pins σ (upd H2 s2.heap.objs.size (.lst [])) {s2 with heap:=s2.heap.push {cls:=.type "list",dict:=none,data:=.seq ([]:List Value).toArray}}:=
  I2.laid (t':=s2.toks) (fun b o e=>tqc _ e) (tqg _) ⟨Nat.zero_le _,[],_,.nil,tqe _ rfl⟩
 generalize hs3:({s2 with heap:=s2.heap.push {cls:=.type "list",dict:=none,data:=.seq ([]:List Value).toArray}}:Shared)=s3 at I3 ⊢
 have k3:∀b o,s2.heap.get? b=some o->s3.heap.get? b=some o:=fun b o e=>by rw [<- hs3];exact tqc _ e
 have fo2:=T.obj _ _ st2
 have f3:∀b∈fp,zf8 X pins (upd H2 s2.heap.objs.size (.lst [])) b:=fun b hb=>by
  obtain ⟨o,e,_⟩:=fo2 b hb
  exact ⟨by rw [zaz (tqk (tqd e))];exact (f2 b hb).1,(f2 b hb).2⟩
 have fo3:∀b∈fp,∃o,s3.heap.get? b=some o:=fun b hb=>let ⟨o,e,_⟩:=fo2 b hb;⟨o,k3 b o e⟩
 refine wpAny_newFunctionEnv S.nocell (by intro y hy;simp at hy) (fun h₁ hns₁ hsb₁=>?_) S.kind
 have k4:∀b o,s3.heap.get? b=some o->h₁.get? b=some o:=fun b o e=>hsb₁.extBut b o (tqk (tqd e)) (tqc _ e)
 have I4:=z17 (own:=own) (bn:=bn) (t':=s3.toks+([]:List (Str×Value)).length) I3 S CL f3 fo3 hns₁ k4
 have ok4:=I4.ok
 have f4:∀b∈fp,zf8 (zdr X own bn scope cl s3.heap.objs.size fp s3 (upd H2 s2.heap.objs.size (.lst []))) [] (upd H2 s2.heap.objs.size (.lst [])) b:=fun b hb=>
  ⟨(f3 b hb).1,(ok4.exf b hb).1,ok4.exfs b hb,.inl hb,(ok4.exf b hb).2,fun p hp=>nomatch hp⟩
 have st4:tn 0 h₁:=T.keep _ _ _ st2 fun b hb o e=>k4 b o (k3 b o e)
 have x3:=zl8 m2 ha (.lst [])
 have go:=z5f (X:=zdr X own bn scope cl s3.heap.objs.size fp s3 (upd H2 s2.heap.objs.size (.lst []))) (fa:=fa) (a:=s2.heap.objs.size) (W:=W) (t:=t) (g:=g) (acc:=[]) (vs:=[]) (Q:=fun _ H'=>Q (.ref s2.heap.objs.size) H') (hT it s2.heap.objs.size _) rfl hcalm T (B.pg _ _ _ _ _) (B.db _ _ _ _ _ _) hW I4 st4 f4
  (z0e own.length ((hE.ext x2).extW x3)) (zxu m2 ha []) (zy3 hn) List.mem_cons_self zcf rfl (zw6 wk x3) (by
   rw [ea]
   intro σ' H' μ' vs' z1 z2 z3 z4 z5
   exact z3x (m:=m) m2 ha z1 z3 z4 z5 (okW q2 x2))
 have go':codeAny (model X.prog X.w) X.A (.compLoop (.ListComp elt (⟨tg,iter,ifs,0⟩::rest) scope pos) 0 (.ref it) (.ref s2.heap.objs.size) (compEnvC scope cl s3.heap.objs.size X.env)) (compPost (model X.prog X.w) X.A X.xe use QQ (.ref s2.heap.objs.size) s3.heap.objs.size) {s3 with heap:=h₁,toks:=s3.toks+([]:List (Str×Value)).length}:=
  codeAny_mono go fun r s' ⟨er,σ',H',I',z⟩=>by
   subst er
   refine post _ _ s' H' (comp_back I3 f3 I') z (let ⟨m,hn,_⟩:=I'.loc;⟨m,hn⟩) (fun σ2 H2 s2' I2' hf=>⟨hf I'.free,fun h'' hs''=>zy2 I3 (hf I'.free) I2' hs''⟩) I'.free ⟨Nat.ne_of_gt I3.lt,fun x c e z=>by
    obtain ⟨v,q⟩:=I3.cell x c e
    exact absurd q.lt (by rw [z];exact tqn _)⟩
 exact codeAny_compStart_list go' (T.self _ 0 _ _ _ st4 go')
theorem zyy (m:Bool){elt tg iter:Expr}{ifs:List Expr}{rest:List Comprehension}{scope:Scope}{pos:Pos}{own bn:List Str}{t:Tgt}{W:List Nat}{body:Addr->PySem.Env->Sem Unit}{gw:Env->Mem->Res Walk}{g:Env->List D->Mem->Res (List D)}
 (S:zfw X own bn scope) (hcalm:X.calm=true) (hi:DI fa X tg iter gw) (B:Block fa X own bn scope tg t W body g) (hT:zo2 X elt tg iter ifs rest scope pos body) (hW:∀i∈W,i∉slots t) (hn:∀i∈slots t++W,i<own.length)
 (hs:∀x,foldedSetIterable iter X.env x=pure x):DE fa X (.ListComp elt (⟨tg,iter,ifs,0⟩::rest) scope pos) (zcs m own.length t gw g):=by
 intro pins s σ H Q I ⟨μ,Z,M,hE,hM,h⟩
 rw [eval_ListComp]
 refine zoz (use:=none) S hcalm hi B hT hW hn hs I hE hM h ?_
 intro a C s' H' I' q ⟨m,hn⟩ gone hf _
 exact ⟨m,hn,fun h' hs'=>⟨.ref a,H',(gone σ H' s' I' id).2 h' hs',rfl,q⟩⟩
theorem zwp (m:Bool){i:Nat}{y:Str}{py spos:Pos}{elt tg iter:Expr}{ifs:List Expr}{rest:List Comprehension}{scope:Scope}{pos:Pos}{own bn:List Str}{t:Tgt}{W:List Nat}{body:Addr->PySem.Env->Sem Unit}{gw:Env->Mem->Res Walk}{g:Env->List D->Mem->Res (List D)}
 (S:zfw X own bn scope) (hcalm:X.calm=true) (hi:DI fa X tg iter gw) (B:Block fa X own bn scope tg t W body g) (hT:zo2 X elt tg iter ifs rest scope pos body) (hW:∀i∈W,i∉slots t) (hn:∀i∈slots t++W,i<own.length)
 (hs:∀x,foldedSetIterable iter X.env x=pure x) (hN:X.N.Nodup) (hy:X.N[i]?=some y) (hl:X.env.scope.names.lookup y=some .local)
 (hsw:swapsWith (.ListComp elt (⟨tg,iter,ifs,0⟩::rest) scope pos) (some (.Name y py)) spos.line X.env=pure true) :
 DS fa X (.Assign [.Name y py] (.ListComp elt (⟨tg,iter,ifs,0⟩::rest) scope pos) spos) (fun Z M=>(zcs m own.length t gw g Z M).bind fun x M=>(ofO M (zde (.one i) x Z)).bind fun ρ1 M=>.ok (.next ρ1) M):=by
 intro pins s σ H D' I ⟨μ,Z,M,hE,hM,h⟩
 obtain ⟨x,M1,ex,q⟩:=zbg h
 have q:∀σ' H' μ',Ext μ H μ' H'->zbu fa X.K μ' H' σ' (Z.set i (some x))->RelM fa X.K μ' H' M1->D'.nx σ' H':=q
 rw [exec_Assign_Name_used _ _ _ _ hsw]
 refine tqa (wpAny_standAt (tqa ?_))
 show wpAny _ X.A (do let _ <- comprehension (.ListComp elt (⟨tg,iter,ifs,0⟩::rest) scope pos) scope X.env _ (newList []) false (eval iter X.env) (some (assign (.Name y py) X.env))) _ _ s
 refine tqa (thn (zoz (use:=some (assign (.Name y py) X.env)) (QQ:=fun _ s'=>SP X pins D' .next s') (Q:=fun v H'=>D'.nx (σ.set i (some v)) H') S hcalm hi B hT hW hn hs I hE hM (by
  rw [ex]
  exact fun v H' μ' x1 m1 r1=>q _ H' μ' x1 ((hE.ext x1).set r1) m1) ?_) fun _ s' hq=>tqb (tqb hq))
 intro a C s' H' I' q ⟨m,hn⟩ gone hf ⟨nL,nC⟩
 refine wpAny_assign_Name (zqf I' hN hy (.inl hl) (v:=.ref a) rfl (fun s2 I2 ⟨b,hb,hb2⟩=>?_) (.inr hl))
 have nb:C≠b:=by
  rcases hb2 with z|z
  ·rw [z];exact nL
  ·exact Ne.symm (nC y b z)
 exact ⟨m,hn.sameBut hb nb,fun h' hs'=>⟨_,H',(gone _ H' s2 I2 id).2 h' hs',q⟩⟩
end
end LD
namespace LD
open PySem PySem.Spec PyProof.Rows L2
section
variable {X:Cx}{pins:List (Addr×Obj)}{σ:L2.St}{H:Hp}{s:Shared}{h':Heap}{t':Nat}{ch:List Addr}
theorem zuk (I:Inv X pins σ H s)(hf:∀b∈ch,zf8 X pins H b)(k:∀b o,b∉ch->s.heap.get? b=some o->h'.get? b=some o):Inv X pins σ H {s with heap:=h',toks:=t'}:=by
 have nit:∀b u,H b=some u->b∉ch:=fun b u e z=>by rw [(hf b z).1] at e;cases e
 refine I.step (g':=s.gens) (d':=s.drawn) (ch:=ch) (fun b hb=>⟨(hf b hb).2.2.2.1,(hf b hb).2.1,(hf b hb).2.2.2.2.1,(hf b hb).2.2.2.2.2⟩) (fun b o _ _ hc e _=>k b o hc e) (fun b o _ _ hc e _=>⟨o.slots,k b o hc e⟩) (fun _ _ _ _ n=>n)
  (fun b o hc e=>⟨o,k b o hc e⟩) (fun _ _ e=>e) (fun _ _ _ e=>e) (fun b ps e=>⟨#[],by rw [e];simp⟩) (fun m hm=>?_) (fun b u e=>?_) I.bare
 ·obtain ⟨o,es,ep,ho,r⟩:=hm
  exact ⟨o,es,ep,k _ o (fun z=>(hf _ z).2.1 rfl) ho,r⟩
 ·refine (I.hok b u e).stay (fun c v hc q=>k c v ?_ q) (fun _ q=>q) fun _ _ q=>q
  rcases hc with z|z
  ·rw [z];exact nit b u e
  ·exact nit c _ z
theorem zqc {T:Addr}{o:HO}(I:Inv X pins σ H s)(hf:∀b∈ch,zf8 X pins H b)(k:∀b o,b∉ch->s.heap.get? b=some o->h'.get? b=some o)(hT:s.heap.objs.size<=T)(new:zdb X.prog X.w (upd H T o) h' T o) :
 Inv X pins σ (upd H T o) {s with heap:=h',toks:=t'}:=by
 have hn:H T=none:=I.hok.fresh hT
 have nit:∀b u,H b=some u->b∉ch:=fun b u e z=>by rw [(hf b z).1] at e;cases e
 refine I.step (g':=s.gens) (d':=s.drawn) (ch:=ch) (fun b hb=>⟨(hf b hb).2.2.2.1,(hf b hb).2.1,(hf b hb).2.2.2.2.1,(hf b hb).2.2.2.2.2⟩) (fun b o _ _ hc e _=>k b o hc e) (fun b o _ _ hc e _=>⟨o.slots,k b o hc e⟩)
  (fun b o _ e n=>by rw [zaz (tqk (tqi (tqd e) hT))];exact n)
  (fun b o hc e=>⟨o,k b o hc e⟩) (fun b xs e=>by rw [zaz (zbi e hn)];exact e) (fun b ob u e=>by rw [zaz (zbi e hn)];exact e) (fun b ps e=>⟨#[],by rw [zaz (zbi e hn),e];simp⟩) (fun m hm=>?_) (fun b u e=>?_) I.bare
 ·obtain ⟨o,es,ep,ho,r⟩:=hm
  exact ⟨o,es,ep,k _ o (fun z=>(hf _ z).2.1 rfl) ho,r⟩
 ·by_cases hb:b=T
  ·subst hb;rw [zcf] at e;cases e;exact new
  ·rw [zaz hb] at e
   refine (I.hok b u e).stay (fun c v hc q=>k c v ?_ q) (fun c q=>by rw [zaz (zbi q hn)];exact q) fun c xs q=>by rw [zaz (zbi q hn)];exact q
   rcases hc with z|z
   ·rw [z];exact nit b u e
   ·exact nit c _ z
end
def Ite (K:PySem.W.Frag)(a:Addr):It:=
 ⟨fun i H=>∃xs x,SqL K H a xs/\xs[i]?=some x,fun i H v H'=>∃p x,H p=none/\v=.ref p/\H'=upd H p (.tup [.int i,x])/\∀xs,SqL K H a xs->xs[i]?=some x,fun i H=>∃xs,SqL K H a xs/\xs.length<=i⟩
theorem zxc {P:Program}{w:World}{K:PySem.W.Frag}{elts:List Expr}{kk:Nat}{pos:Pos}(a it e:Addr)(hne:e≠it) :
 Turn P w K (.Tuple elts kk pos) (Ite K a) [e,it] e (fun i h=>(∃old,IsEnum h e it (i:Nat) old)/\h.IsListIter it a i) where
 mem:=by simp
 obj:=fun i h ⟨⟨old,he⟩,o,ho,c,d⟩ b hb=>by
  rcases List.mem_cons.mp hb with z|z
  ·subst z;exact ⟨_,he,fun v z=>by cases z⟩
  ·have e:b=it:=by simpa using z
   subst e
   exact ⟨o,ho,fun v z=>by rw [d] at z;cases z⟩
 keep:=fun i h h' ⟨⟨old,he⟩,st⟩ k=>⟨⟨old,k e (by simp) _ he⟩,st.at fun o e=>k it (by simp) o e⟩
 item:=by
  intro X hP hw hK hc i pins s σ H E I hf st hg
  subst hP hw hK
  obtain ⟨xs,x,hq,hx⟩:=hg
  obtain ⟨⟨old,he⟩,hit⟩:=st
  obtain ⟨its,rv,p,hz⟩:=I.list hq
  obtain ⟨u,hu,ru⟩:=rv.get hx
  refine wpAny_pyNext_enum_item he hit p.isList (x:=u) (by simpa using hu) hne fun h1 ho hit1 hT hsz hk=>⟨_,rfl,?_⟩
  have hT0:H s.heap.objs.size=none:=I.hok.fresh (tqg _)
  have elt:e<s.heap.objs.size:=tqd he
  refine wpAny_letOwnedTupleGo_enum (s:={s with heap:=h1,toks:=s.toks+1}) ho fun h2 he2 hs2=>?_
  have he2:IsEnum h2 e it ((i+1:Nat):Int) u:=by simpa using he2
  have hT2:h2.get? s.heap.objs.size=some {cls:=.type "tuple",data:=.seq #[.int i s.toks,u]}:=(hs2.2 _ (Nat.ne_of_gt elt)).trans hT
  refine ⟨.ref s.heap.objs.size,upd H s.heap.objs.size (.tup [.int i,x]),zqc (s:=s) (t':=s.toks+1) I hf (fun b o hb q=>(hs2.2 b (fun z=>hb (by simp [z]))).trans (hk b o (fun z=>hb (by simp [z])) (fun z=>hb (by simp [z])) q)) (tqg _) ⟨?_,[.int i s.toks,u],.cons ⟨_,rfl⟩ (.cons ru .nil),⟨_,hT2,rfl,_,rfl⟩⟩,rfl,
   ⟨_,x,hT0,rfl,rfl,fun ys hy=>by rw [I.list_inj hy hq];exact hx⟩,⟨⟨u,he2⟩,hit1.extBut hs2.extBut (Ne.symm hne)⟩,fun b hb=>?_⟩
  ·show 2<=sizeLine;decide
  ·have:b<s.heap.objs.size:=by
    rcases List.mem_cons.mp hb with z|z
    ·subst z;exact elt
    ·have e:b=it:=by simpa using z
     subst e
     obtain ⟨o,e,_⟩:=hit;exact tqd e
   rw [zaz (tqk this)];exact (hf b hb).1
 done:=by
  intro X hP hw hK hc i pins s σ H E I hf st hg
  subst hP hw hK
  obtain ⟨xs,hq,hx⟩:=hg
  obtain ⟨⟨old,he⟩,hit⟩:=st
  obtain ⟨its,rv,p,hz⟩:=I.list hq
  have hl:=rv.length
  exact wpAny_pyNext_enum_end (I.ok.hd hc) he hit p.isList (by simp;omega) fun h' eb=>⟨rfl,zuk I hf (t':=s.toks) fun b o hb q=>eb b o (fun z=>hb (by simp [z])) q⟩
 self:=fun _ _ _ _ _ ⟨⟨old,he⟩,_⟩ h=>wpAny_pyIter_enum he h
section
variable {fa:Fa}{X:Cx}{a:Expr}{ga:Env->Mem->Res D}{pos p:Pos}
theorem zeb:∀(ds:List D) (k i:Nat),(zdd k ds)[i]?=(ds[i]?).map fun d=>.tup [.int ((k+i:Nat):Int),d]
 |[],_,_=>by simp [zdd]
 |d::ds,k,0=>by simp [zdd]
 | d :: ds, k, i + 1 => by
   have:=zeb ds (k+1) i
   simp only [zdd,List.getElem?_cons_succ,this]
   congr 1
   funext d
   congr 3
   omega
theorem zhc:∀(ds:List D) (k:Nat),(zdd k ds).length=ds.length
 |[],_=>rfl
 |d::ds,k=>by simp [zdd,zhc ds]
theorem zw8 {μ0:Mu}{H0:Hp}{dd:D}{ad:Addr}(h:Rep fa X.K μ0 H0 dd (.ref ad)):zes fa X.K μ0 H0 (fun M=>(rdD M dd).map (zdd 0)) (Ite X.K ad):=fun μ H M ds x hM e=>by
 dsimp only at e
 cases e0:rdD M dd with
 |none=>rw [e0] at e;cases e
 | some es =>
   rw [e0] at e
   have e:zdd 0 es=ds:=Option.some.inj e
   subst e
   obtain ⟨ad',vs,ea,s,r⟩:=zcd hM (Rep.extW x h) e0
   cases ea
   refine ⟨fun i d hd=>?_,fun i hi=>⟨vs,s,by rw [r.length,<- zhc es 0];exact hi⟩⟩
   rw [zeb] at hd
   cases e1:es[i]? with
   |none=>rw [e1] at hd;cases hd
   | some d0 =>
     rw [e1] at hd
     have hd:D.tup [.int ((0+i:Nat):Int),d0]=d:=Option.some.inj hd
     subst hd
     obtain ⟨v,hv,rv⟩:=r.get e1
     refine ⟨⟨vs,v,s,hv⟩,fun y H' ⟨q,z,hq,ey,eH,hy⟩=>?_⟩
     have:=hy vs s
     rw [hv] at this;cases this
     subst eH ey
     refine ⟨Ext.alloc hM hq,hM.alloc hq,q,[.int i,v],rfl,.inl (.inl zcf),.int i,[v],rfl,?_,v,[],rfl,rv.ext (Ext.alloc hM hq),rfl⟩
     show V.int i=V.int ((0+i:Nat):Int)
     rw [Nat.zero_add]
def zlk (ga:Env->Mem->Res D):Env->Mem->Res Walk:=fun Z M=>(ga Z M).bind fun x M=>match x with
 |.lst ds=>.ok (fun _=>some (zdd 0 ds)) M
 |.frz ds=>.ok (fun _=>some (zdd 0 ds)) M
 |.cell k=>.ok (fun M=>(M[k]?).map (zdd 0)) M
 |_=>.bad
theorem z47 {elts:List Expr}{kk:Nat}{tp:Pos}(ha:DE fa X a ga)(hg:Gl X "enumerate")(hm:X.mg "enumerate"=none)(hs:starEach [a] X.env=[(false,eval a X.env)]):DI fa X (.Tuple elts kk tp) (.Call (.Name "enumerate" p) [a] [] pos) (zlk ga):=by
 intro pins s σ H R I ⟨μ,Z,M,hE,hM,h⟩
 obtain ⟨x,M1,e,q⟩:=zbg h
 have key:(∀μ' H',RelM fa X.K μ' H' M1->∀v,Rep fa X.K μ' H' x v->∃ds,rdD M1 x=some ds)->(∀J H' μ',Ext μ H μ' H'->RelM fa X.K μ' H' M1->zes fa X.K μ' H' (fun M=>(rdD M x).map (zdd 0)) J->R J H')->
  wpAny (model X.prog X.w) X.A (eval (.Call (.Name "enumerate" p) [a] [] pos) X.env) (fun v s1=>wpAny (model X.prog X.w) X.A (pyIter v) (PIE X pins σ (.Tuple elts kk tp) R) X.xe s1) X.xe s:=fun hx q=>by
  refine Call_ (zia I hg hm boot_enumerate (PyProof.Rows.callWith_type1 (thn (zcq ha zd9 hs pos pins s σ H (fun vs H1=>∃v μ1,vs=[v]/\Ext μ H μ1 H1/\RelM fa X.K μ1 H1 M1/\Rep fa X.K μ1 H1 x v) I ⟨μ,Z,M,hE,hM,?_⟩) fun us s1 ⟨vs,H1,I1,r1,v,μ1,ev,x1,m1,rv⟩=>?_) hs rfl))
  ·rw [e];exact fun v H1 μ1 x1 m1 r1=>⟨v,μ1,rfl,x1,m1,r1⟩
  subst ev
  obtain ⟨ds,er⟩:=hx μ1 H1 m1 v rv
  obtain ⟨ad,vs,rfl,s1',r⟩:=zcd m1 rv er
  cases r1 with
  | cons r1 rr =>
    cases rr
    obtain rfl:=r1
    obtain ⟨its,rvs,pl,hz⟩:=I1.list s1'
    refine call_enumerate_list pl.isList fun h1 he hit hsz hk=>?_
    have I2:Inv X pins σ H1 {s1 with heap:=h1}:=I1.kept (t':=s1.toks) hk
    refine wpAny_pyIter_enum (s:={s1 with heap:=h1}) he ?_
    refine ⟨s1.heap.objs.size+1,[s1.heap.objs.size+1,s1.heap.objs.size],_,_,H1,rfl,I2,zxc ad s1.heap.objs.size (s1.heap.objs.size+1) (Nat.succ_ne_self _),⟨⟨.none,he⟩,hit⟩,fun b hb=>?_,q _ H1 μ1 x1 m1 (zw8 rv)⟩
    have hb:s1.heap.objs.size<=b:=by
     rcases List.mem_cons.mp hb with z|z
     ·subst z;exact Nat.le_succ _
     ·have e:b=s1.heap.objs.size:=by simpa using z
      subst e;exact tqg _
    exact I1.fpOk hb (I1.hok.fresh hb)
 cases x with
 |lst ds=>exact key (fun _ _ _ _ _=>⟨ds,rfl⟩) q
 |frz ds=>exact key (fun _ _ _ _ _=>⟨ds,rfl⟩) q
 |cell k=>exact key (fun μ' H' m' v ⟨ad,_,hk⟩=>let ⟨ds,_,e,_⟩:=m'.mu_lt hk;⟨ds,e⟩) q
 |_=>exact q.elim
end
end LD
namespace LD
open PySem PySem.Spec PyProof.Rows L2
def zce:Bool->Heap->Addr->Array Value->Prop
 |true,h,a,its=>h.IsList a its
 |false,h,a,its=>h.IsTuple a its
def zc7:Bool->Heap->Addr->Addr->Nat->Prop
 |true,h,it,a,i=>h.IsListIter it a i
 |false,h,it,a,i=>h.IsTupleIter it a i
theorem zce.extBut {b:Bool}{h h':Heap}{a c:Addr}{its:Array Value}(x:zce b h a its)(hs:Heap.ExtBut c h h')(n:a≠c):zce b h' a its:=by
 cases b<;>(obtain ⟨o,ho,r⟩:=x;exact ⟨o,hs a o n ho,r⟩)
theorem zc7.extBut {b:Bool}{h h':Heap}{it a c:Addr}{i:Nat}(x:zc7 b h it a i)(hs:Heap.ExtBut c h h')(n:it≠c):zc7 b h' it a i:=by
 cases b<;>(obtain ⟨o,ho,r⟩:=x;exact ⟨o,hs it o n ho,r⟩)
theorem zc7.at {b:Bool}{h h':Heap}{it a:Addr}{i:Nat}(x:zc7 b h it a i)(k:∀o,h.get? it=some o->h'.get? it=some o):zc7 b h' it a i:=by
 cases b<;>(obtain ⟨o,ho,r⟩:=x;exact ⟨o,k o ho,r⟩)
theorem zc7.obj {b:Bool}{h:Heap}{it a:Addr}{i:Nat}(x:zc7 b h it a i):∃o,h.get? it=some o/\∀v,o.data≠.cell v:=by
 cases b<;>(obtain ⟨o,ho,c,d⟩:=x;exact ⟨o,ho,fun v z=>by rw [d] at z;cases z⟩)
section
variable {prog:Program}{w:World}{A:Around}{E:Value->Shared->Prop}{s:Shared}
theorem zb8 {a b:Nat}(h:a≠b):@Ne Addr a b:=h
theorem zrz {T:Addr}{its:Array Value}{k:Nat}{x:Value}{Q:Unit->Shared->Prop}(hT:s.heap.get? T=some {cls:=.type "tuple",data:=.seq its})(hz:its.size<=64)
 (h:∀h',h'.get? T=some {cls:=.type "tuple",data:=.seq (its.setIfInBounds k x)}->Heap.SameBut T s.heap h'->Q () {s with heap:=h'}) :
 wpAny (model prog w) A (updateSeq T (·.setIfInBounds k x)) Q E s:=by
 refine wpAny_updateSeq hT rfl (h _ ?_ (Heap.SameBut.update ..)) (tqh hz (by decide)) (by rw [Array.size_setIfInBounds];exact tqh hz (by decide))
 rw [tqm _ hT rfl]
 simp [Obj.mapSeq]
theorem zka {b:Bool}{it a:Addr}{i:Nat}{its:Array Value}{x:Value}{Q:Value->Shared->Prop}(hit:zc7 b s.heap it a i)(hl:zce b s.heap a its)(hx:its[i]?=some x)
 (hQ:∀h',zc7 b h' it a (i+1)->Heap.SameBut it s.heap h'->Q x {s with heap:=h'}):wpAny (model prog w) A (Builtin.SmallTypes.nextOf (.ref it)) Q E s:=by
 cases b with
 |true=>exact wpAny_nextOf_list_item hit hl hx hQ
 | false =>
   have hit:s.heap.IsTupleIter it a i:=hit
   obtain ⟨o,ho,hc,hd⟩:=id hit
   obtain ⟨ol,hol,_,nl,hdl⟩:=hl
   unfold Builtin.SmallTypes.nextOf
   refine tqa (wpAny_callSpecial?_slot (name:=Str.ofString "__next__") hit.typeIs F.slot_tuple_iterator_next
    (wpAny_call_entry F.slot_tuple_iterator_next hit.typeIs F.entry_tuple_iterator_next ?_ (F.args_tuple_iterator_next_1 _)))
   show wpAny _ _ (field (.ref it) 0 >>= _) _ _ s
   refine tqa (tqf ho hd (x:=.ref a) rfl ?_)
   show wpAny _ _ (if (Value.ref a==Value.none)=true then _ else _) _ _ s
   rw [if_neg (show ¬ ((Value.ref a==Value.none)=true) from tqj)]
   show wpAny _ _ (field (.ref it) 1 >>= _) _ _ s
   refine tqa (tqf ho hd (x:=.int i 0) rfl ?_)
   show wpAny _ _ (seqItems? (.ref a) >>= _) _ _ s
   refine tqa (wpAny_seqItems hol hdl ?_)
   simp only [Int.toNat_natCast,hx]
   refine tqa (wpAny_setField ho hd (by simp) (tqb ⟨x,rfl,tqb (hQ _ ?_ (Heap.SameBut.update ..))⟩))
   exact ⟨_,tqm _ ho (Obj.isFreed_of_fields (Obj.data_mapFields hd _)),(Obj.cls_mapFields ..).trans hc,by
    rw [Obj.data_mapFields hd];simp [rawInt]⟩
theorem zom {b:Bool}{it a:Addr}{i:Nat}{its:Array Value}{Q:Value->Shared->Prop}(hh:A.handled=none)(hit:zc7 b s.heap it a i)(hl:zce b s.heap a its)(hx:its[i]?=none)
 (hE:∀h' e,Heap.ExtBut it s.heap h'->(∃o,h'.get? e=some o/\o.cls=.type "StopIteration")->E (.ref e) {s with heap:=h'}):wpAny (model prog w) A (Builtin.SmallTypes.nextOf (.ref it)) Q E s:=by
 cases b with
 |true=>exact wpAny_nextOf_list_end hh hit hl hx hE
 | false =>
   have hit:s.heap.IsTupleIter it a i:=hit
   obtain ⟨o,ho,hc,hd⟩:=id hit
   obtain ⟨ol,hol,_,nl,hdl⟩:=hl
   unfold Builtin.SmallTypes.nextOf
   refine tqa (wpAny_callSpecial?_slot (name:=Str.ofString "__next__") hit.typeIs F.slot_tuple_iterator_next
    (wpAny_call_entry F.slot_tuple_iterator_next hit.typeIs F.entry_tuple_iterator_next ?_ (F.args_tuple_iterator_next_1 _)))
   show wpAny _ _ (field (.ref it) 0 >>= _) _ _ s
   refine tqa (tqf ho hd (x:=.ref a) rfl ?_)
   show wpAny _ _ (if (Value.ref a==Value.none)=true then _ else _) _ _ s
   rw [if_neg (show ¬ ((Value.ref a==Value.none)=true) from tqj)]
   show wpAny _ _ (field (.ref it) 1 >>= _) _ _ s
   refine tqa (tqf ho hd (x:=.int i 0) rfl ?_)
   show wpAny _ _ (seqItems? (.ref a) >>= _) _ _ s
   refine tqa (wpAny_seqItems hol hdl ?_)
   simp only [Int.toNat_natCast,hx]
   refine tqa (wpAny_rule (tqa (wpAny_setField ho hd (by simp) ?_)))
   show wpAny _ _ (newExc (.type "StopIteration") [] >>= _) _ _ _
   refine tqa ?_
   simp only [newExc,newTuple]
   refine tqa (wpAny_newObj_type ?_ (by size_fits))
   refine tqa (m:=firstArgMember _ _) (wpAny_of_eq (a:=Value.none) (by first|rfl|(simp only [firstArgMember];rfl)) ?_)
   refine wpAny_newObj_type ?_ (by size_fits)
   simp only [raiseNew]
   refine tqa (wpAny_handled ?_)
   first|rw [show A.in1.handled=none from hh]|rw [hh]
   refine tqa (tqb (wpAny_throw ?_))
   exact hE _ _ (((Heap.SameBut.update ..).extBut.push _).push _) ⟨_,tqe _ rfl,rfl⟩
theorem zwz {n i:Nat}{a0 a1:Nat}{b0 b1:Bool}{xs0 xs1:Array Value}{x0 x1 u0 u1:Value}{Q:Value->Shared->Prop}(hn:a0<n/\a1<n)
 (hz:IsZip s.heap (n+4) (n+2) (n+3) .none) (hTI:s.heap.get? (n+2)=some {cls:=.type "tuple",data:=.seq #[.ref n,.ref (n+1)]}) (hTO:s.heap.get? (n+3)=some {cls:=.type "tuple",data:=.seq #[u0,u1]})
 (i0:zc7 b0 s.heap n a0 i) (i1:zc7 b1 s.heap (n+1) a1 i) (q0:zce b0 s.heap a0 xs0) (q1:zce b1 s.heap a1 xs1)
 (e0:xs0[i]?=some x0) (e1:xs1[i]?=some x1)
 (hQ:∀h',IsZip h' (n+4) (n+2) (n+3) (rawInt s.heap.objs.size)->h'.get? (n+3)=some {cls:=.type "tuple",data:=.seq #[x0,x1]}->zc7 b0 h' n a0 (i+1)->zc7 b1 h' (n+1) a1 (i+1)->h'.get? s.heap.objs.size=some {cls:=.type "tuple",data:=.seq #[x0,x1]}->h'.objs.size=s.heap.objs.size+1->
  (∀c o,c∉[n,(n+1),(n+3),(n+4)]->s.heap.get? c=some o->h'.get? c=some o)->Q (.ref s.heap.objs.size) {s with heap:=h'}) :
 wpAny (model prog w) A (Builtin.«zip.__next__» ⟨[.ref (n+4)],[]⟩) (fun fin s'=>∃v,fin=.done (.ret v)/\Q v s') E s:=by
 obtain ⟨l0,l1⟩:=hn
 show wpAny _ _ (field (.ref (n+4)) 2 >>= _) _ _ _
 refine tqa (tqf hz rfl (x:=.bool false) rfl ?_)
 show wpAny _ _ (field (.ref (n+4)) 3 >>= _) _ _ _
 refine tqa (tqf hz rfl (x:=.ref (n+2)) rfl ?_)
 refine tqa (wpAny_seqItems hTI rfl ?_)
 show wpAny _ _ (Builtin.SmallTypes.ownedTupleIsFree (.ref (n+4)) >>= _) _ _ _
 refine tqa ?_
 unfold Builtin.SmallTypes.ownedTupleIsFree
 refine tqa (tqf hz rfl (x:=.none) rfl (tqb ?_))
 simp only [if_true]
 refine tqa (wpAny_rule ?_)
 refine tqa (tqf hz rfl (x:=.ref (n+3)) rfl ?_)
 refine tqa (wpAny_setField_rec hz (by simp) fun h0 hz0 hs0=>?_)
 replace hz0:IsZip h0 (n+4) (n+2) (n+3) .ellipsis:=hz0
 have k0:∀c o,c∉[n,(n+1),(n+3),(n+4)]->s.heap.get? c=some o->h0.get? c=some o:=fun c o hc e=>hs0.extBut _ _ (fun z=>hc (by rw [z];simp)) e
 have hTO0:h0.get? (n+3)=some {cls:=.type "tuple",data:=.seq #[u0,u1]}:=hs0.extBut _ _ (zb8 (by omega)) hTO
 have hsz0:h0.objs.size=s.heap.objs.size:=hs0.1
 refine tqa ?_
 simp only [List.zipIdx_cons,List.zipIdx_nil,List.forIn_cons,List.forIn_nil]
 have j0_0:zc7 b0 h0 n a0 i:=i0.extBut hs0.extBut (zb8 (by omega))
 have p0_0:zce b0 h0 a0 xs0:=q0.extBut hs0.extBut (zb8 (by omega))
 have j1_0:zc7 b1 h0 (n+1) a1 i:=i1.extBut hs0.extBut (zb8 (by omega))
 have p1_0:zce b1 h0 a1 xs1:=q1.extBut hs0.extBut (zb8 (by omega))
 refine tqa (tqa (wpAny_onRaise ?_))
 show wpAny _ _ (Builtin.SmallTypes.nextOf (.ref n) >>= _) _ _ _
 refine tqa (zka j0_0 p0_0 e0 fun h1 j0_1 hs1=>tqb ?_)
 have hTO1:h1.get? (n+3)=some {cls:=.type "tuple",data:=.seq #[u0,u1]}:=hs1.extBut _ _ (zb8 (by omega)) hTO0
 refine tqa (wpAny_seqItems hTO1 rfl ?_)
 refine tqa (zrz hTO1 (by simp) fun h2 hTO2 hs2=>?_)
 replace hTO2:h2.get? (n+3)=some {cls:=.type "tuple",data:=.seq #[x0,u1]}:=hTO2
 have hz2:IsZip h2 (n+4) (n+2) (n+3) .ellipsis:=hs2.extBut _ _ (zb8 (by omega)) (hs1.extBut _ _ (zb8 (by omega)) hz0)
 have k2:∀c o,c∉[n,(n+1),(n+3),(n+4)]->s.heap.get? c=some o->h2.get? c=some o:=fun c o hc e=>hs2.extBut _ _ (fun z=>hc (by rw [z];simp)) (hs1.extBut _ _ (fun z=>hc (by rw [z];simp)) (k0 c o hc e))
 have hsz2:h2.objs.size=s.heap.objs.size:=by rw [hs2.1,hs1.1,hsz0]
 have j0_2:zc7 b0 h2 n a0 (i+1):=j0_1.extBut hs2.extBut (zb8 (by omega))
 have p0_2:zce b0 h2 a0 xs0:=(p0_0.extBut hs1.extBut (zb8 (by omega))).extBut hs2.extBut (zb8 (by omega))
 have j1_2:zc7 b1 h2 (n+1) a1 i:=(j1_0.extBut hs1.extBut (zb8 (by omega))).extBut hs2.extBut (zb8 (by omega))
 have p1_2:zce b1 h2 a1 xs1:=(p1_0.extBut hs1.extBut (zb8 (by omega))).extBut hs2.extBut (zb8 (by omega))
 refine tqa (wpAny_letGo (tqb ?_))
 refine tqa (tqa (wpAny_onRaise ?_))
 show wpAny _ _ (Builtin.SmallTypes.nextOf (.ref (n+1)) >>= _) _ _ _
 refine tqa (zka j1_2 p1_2 e1 fun h3 j1_3 hs3=>tqb ?_)
 have hTO3:h3.get? (n+3)=some {cls:=.type "tuple",data:=.seq #[x0,u1]}:=hs3.extBut _ _ (zb8 (by omega)) hTO2
 refine tqa (wpAny_seqItems hTO3 rfl ?_)
 refine tqa (zrz hTO3 (by simp) fun h4 hTO4 hs4=>?_)
 replace hTO4:h4.get? (n+3)=some {cls:=.type "tuple",data:=.seq #[x0,x1]}:=hTO4
 have hz4:IsZip h4 (n+4) (n+2) (n+3) .ellipsis:=hs4.extBut _ _ (zb8 (by omega)) (hs3.extBut _ _ (zb8 (by omega)) hz2)
 have k4:∀c o,c∉[n,(n+1),(n+3),(n+4)]->s.heap.get? c=some o->h4.get? c=some o:=fun c o hc e=>hs4.extBut _ _ (fun z=>hc (by rw [z];simp)) (hs3.extBut _ _ (fun z=>hc (by rw [z];simp)) (k2 c o hc e))
 have hsz4:h4.objs.size=s.heap.objs.size:=by rw [hs4.1,hs3.1,hsz2]
 have j0_4:zc7 b0 h4 n a0 (i+1):=(j0_2.extBut hs3.extBut (zb8 (by omega))).extBut hs4.extBut (zb8 (by omega))
 have p0_4:zce b0 h4 a0 xs0:=(p0_2.extBut hs3.extBut (zb8 (by omega))).extBut hs4.extBut (zb8 (by omega))
 have j1_4:zc7 b1 h4 (n+1) a1 (i+1):=j1_3.extBut hs4.extBut (zb8 (by omega))
 have p1_4:zce b1 h4 a1 xs1:=(p1_2.extBut hs3.extBut (zb8 (by omega))).extBut hs4.extBut (zb8 (by omega))
 refine tqa (wpAny_letGo (tqb (tqb ?_)))
 refine tqa (wpAny_seqItems hTO4 rfl ?_)
 refine tqa (wpAny_newTuple ?_)
 have hzlt:(n+4)<h4.objs.size:=tqd hz4
 show wpAny _ _ (Builtin.SmallTypes.ownedTupleHandOut (.ref (n+4)) (.ref h4.objs.size) >>= _) _ _ _
 refine tqa ?_
 unfold Builtin.SmallTypes.ownedTupleHandOut
 have hz6:IsZip (h4.push {cls:=.type "tuple",data:=.seq #[x0,x1]}) (n+4) (n+2) (n+3) .ellipsis:=tqc _ hz4
 refine tqa (wpAny_setField_rec hz6 (by simp) fun h7 hz7 hs7=>?_)
 replace hz7:IsZip h7 (n+4) (n+2) (n+3) (rawInt h4.objs.size):=hz7
 refine wpAny_setField_rec hz7 (by simp) fun h8 hz8 hs8=>?_
 replace hz8:IsZip h8 (n+4) (n+2) (n+3) (rawInt h4.objs.size):=hz8
 have up:∀c o,c≠(n+4)->h4.get? c=some o->h8.get? c=some o:=fun c o c1 e=>hs8.extBut _ _ c1 (hs7.extBut _ _ c1 (tqc _ e))
 have hT8:h8.get? h4.objs.size=some {cls:=.type "tuple",data:=.seq #[x0,x1]}:=hs8.extBut _ _ (Nat.ne_of_gt hzlt) (hs7.extBut _ _ (Nat.ne_of_gt hzlt) (tqe _ rfl))
 have hzz:h8.objs.size=h4.objs.size+1:=by rw [hs8.1,hs7.1,Heap.size_push]
 rw [hsz4] at hz8 hT8 hzz
 refine tqb ⟨_,rfl,?_⟩
 show Q (.ref h4.objs.size) _
 rw [hsz4]
 exact hQ h8 hz8 (up _ _ (zb8 (by omega)) hTO4) (j0_4.at fun o e=>up _ o (zb8 (by omega)) e) (j1_4.at fun o e=>up _ o (zb8 (by omega)) e) hT8 hzz fun c o hc e=>up c o (fun z=>hc (by rw [z];simp)) (k4 c o hc e)
theorem zzb {n i:Nat}{a0 a1:Nat}{b0 b1:Bool}{xs0 xs1:Array Value}{u0 u1:Value}{Q:Fin->Shared->Prop}(hh:A.handled=none)(hn:a0<n/\a1<n)
 (hz:IsZip s.heap (n+4) (n+2) (n+3) .none) (hTI:s.heap.get? (n+2)=some {cls:=.type "tuple",data:=.seq #[.ref n,.ref (n+1)]}) (hTO:s.heap.get? (n+3)=some {cls:=.type "tuple",data:=.seq #[u0,u1]})
 (i0:zc7 b0 s.heap n a0 i) (i1:zc7 b1 s.heap (n+1) a1 i) (q0:zce b0 s.heap a0 xs0) (q1:zce b1 s.heap a1 xs1)
 (hend:xs0[i]?=none\/xs1[i]?=none)
 (hE:∀h' e,(∀c o,c∉[n,(n+1),(n+3),(n+4)]->s.heap.get? c=some o->h'.get? c=some o)->(∃o,h'.get? e=some o/\o.cls=.type "StopIteration")->E (.ref e) {s with heap:=h'}) :
 wpAny (model prog w) A (Builtin.«zip.__next__» ⟨[.ref (n+4)],[]⟩) Q E s:=by
 obtain ⟨l0,l1⟩:=hn
 show wpAny _ _ (field (.ref (n+4)) 2 >>= _) _ _ _
 refine tqa (tqf hz rfl (x:=.bool false) rfl ?_)
 show wpAny _ _ (field (.ref (n+4)) 3 >>= _) _ _ _
 refine tqa (tqf hz rfl (x:=.ref (n+2)) rfl ?_)
 refine tqa (wpAny_seqItems hTI rfl ?_)
 show wpAny _ _ (Builtin.SmallTypes.ownedTupleIsFree (.ref (n+4)) >>= _) _ _ _
 refine tqa ?_
 unfold Builtin.SmallTypes.ownedTupleIsFree
 refine tqa (tqf hz rfl (x:=.none) rfl (tqb ?_))
 simp only [if_true]
 refine tqa (wpAny_rule ?_)
 refine tqa (tqf hz rfl (x:=.ref (n+3)) rfl ?_)
 refine tqa (wpAny_setField_rec hz (by simp) fun h0 hz0 hs0=>?_)
 replace hz0:IsZip h0 (n+4) (n+2) (n+3) .ellipsis:=hz0
 have k0:∀c o,c∉[n,(n+1),(n+3),(n+4)]->s.heap.get? c=some o->h0.get? c=some o:=fun c o hc e=>hs0.extBut _ _ (fun z=>hc (by rw [z];simp)) e
 have hTO0:h0.get? (n+3)=some {cls:=.type "tuple",data:=.seq #[u0,u1]}:=hs0.extBut _ _ (zb8 (by omega)) hTO
 refine tqa ?_
 simp only [List.zipIdx_cons,List.zipIdx_nil,List.forIn_cons,List.forIn_nil]
 have j0_0:zc7 b0 h0 n a0 i:=i0.extBut hs0.extBut (zb8 (by omega))
 have p0_0:zce b0 h0 a0 xs0:=q0.extBut hs0.extBut (zb8 (by omega))
 have j1_0:zc7 b1 h0 (n+1) a1 i:=i1.extBut hs0.extBut (zb8 (by omega))
 have p1_0:zce b1 h0 a1 xs1:=q1.extBut hs0.extBut (zb8 (by omega))
 refine tqa (tqa (wpAny_onRaise ?_))
 show wpAny _ _ (Builtin.SmallTypes.nextOf (.ref n) >>= _) _ _ _
 cases e0:xs0[i]? with
 | none =>
   refine tqa (zom hh j0_0 p0_0 e0 fun h1 e hs1 he=>?_)
   obtain ⟨oe,hoe,hce⟩:=he
   have hz1:IsZip h1 (n+4) (n+2) (n+3) .ellipsis:=hs1 _ _ (zb8 (by omega)) hz0
   have hez:e≠(n+4):=fun x=>by subst x;rw [hz1] at hoe;cases hoe;simp at hce
   exact wpAny_setField_rec hz1 (by simp) fun h2 _ hs2=>hE h2 e (fun c o hc x=>hs2.extBut _ _ (fun z=>hc (by rw [z];simp)) (hs1 _ _ (fun z=>hc (by rw [z];simp)) (k0 c o hc x))) ⟨oe,hs2.extBut _ _ hez hoe,hce⟩
 | some x0 =>
   refine tqa (zka j0_0 p0_0 e0 fun h1 j0_1 hs1=>tqb ?_)
   have hTO1:h1.get? (n+3)=some {cls:=.type "tuple",data:=.seq #[u0,u1]}:=hs1.extBut _ _ (zb8 (by omega)) hTO0
   refine tqa (wpAny_seqItems hTO1 rfl ?_)
   refine tqa (zrz hTO1 (by simp) fun h2 hTO2 hs2=>?_)
   replace hTO2:h2.get? (n+3)=some {cls:=.type "tuple",data:=.seq #[x0,u1]}:=hTO2
   have hz2:IsZip h2 (n+4) (n+2) (n+3) .ellipsis:=hs2.extBut _ _ (zb8 (by omega)) (hs1.extBut _ _ (zb8 (by omega)) hz0)
   have k2:∀c o,c∉[n,(n+1),(n+3),(n+4)]->s.heap.get? c=some o->h2.get? c=some o:=fun c o hc e=>hs2.extBut _ _ (fun z=>hc (by rw [z];simp)) (hs1.extBut _ _ (fun z=>hc (by rw [z];simp)) (k0 c o hc e))
   have j1_2:zc7 b1 h2 (n+1) a1 i:=(j1_0.extBut hs1.extBut (zb8 (by omega))).extBut hs2.extBut (zb8 (by omega))
   have p1_2:zce b1 h2 a1 xs1:=(p1_0.extBut hs1.extBut (zb8 (by omega))).extBut hs2.extBut (zb8 (by omega))
   refine tqa (wpAny_letGo (tqb ?_))
   refine tqa (tqa (wpAny_onRaise ?_))
   show wpAny _ _ (Builtin.SmallTypes.nextOf (.ref (n+1)) >>= _) _ _ _
   cases e1:xs1[i]? with
   | none =>
     refine tqa (zom hh j1_2 p1_2 e1 fun h3 e hs3 he=>?_)
     obtain ⟨oe,hoe,hce⟩:=he
     have hz3:IsZip h3 (n+4) (n+2) (n+3) .ellipsis:=hs3 _ _ (zb8 (by omega)) hz2
     have hez:e≠(n+4):=fun x=>by subst x;rw [hz3] at hoe;cases hoe;simp at hce
     exact wpAny_setField_rec hz3 (by simp) fun h4 _ hs4=>hE h4 e (fun c o hc x=>hs4.extBut _ _ (fun z=>hc (by rw [z];simp)) (hs3 _ _ (fun z=>hc (by rw [z];simp)) (k2 c o hc x))) ⟨oe,hs4.extBut _ _ hez hoe,hce⟩
   | some x1 =>
     exfalso
     rcases hend with h|h
     ·rw [e0] at h;cases h
     ·rw [e1] at h;cases h
end
end LD
namespace LD
open PySem PySem.Spec PyProof.Rows L2
def SqB (K:PySem.W.Frag)(H:Hp):Bool->Addr->List V->Prop
 |true,a,xs=>SqL K H a xs
 |false,a,xs=>SqT K H a xs
def zh1:D->Bool
 |.tup _=>false
 |_=>true
def zd5:D->Bool
 |.tup _=>true
 |.lst _=>true
 |.frz _=>true
 |.cell _=>true
 |_=>false
theorem zkk {X:Cx}{pins:List (Addr×Obj)}{σ:L2.St}{H:Hp}{s:Shared}{b:Bool}{a:Addr}{xs:List V}(I:Inv X pins σ H s)(h:SqB X.K H b a xs):∃its:List Value,Vals xs its/\zce b s.heap a its.toArray:=by
 cases b with
 |true=>obtain ⟨its,r,p,_⟩:=I.list h;exact ⟨its,r,p.isList⟩
 |false=>obtain ⟨its,r,p,_⟩:=I.tuple h;exact ⟨its,r,p⟩
theorem zsh {X:Cx}{pins:List (Addr×Obj)}{σ:L2.St}{H:Hp}{s:Shared}{b:Bool}{a:Addr}{xs ys:List V}(I:Inv X pins σ H s)(h:SqB X.K H b a xs)(h':SqB X.K H b a ys):xs=ys:=by
 cases b with
 |true=>exact I.list_inj h h'
 |false=>exact I.tuple_inj h h'
theorem zne {fa:Fa}{X:Cx}{μ:Mu}{H:Hp}{M:Mem}{d:D}{a:Addr}{ds:List D}(hM:RelM fa X.K μ H M)(h:Rep fa X.K μ H d (.ref a))(e:zcp M d=some ds):∃vs,SqB X.K H (zh1 d) a vs/\za7 fa X.K μ H ds vs:=by
 cases d with
 |tup xs=>cases e;obtain ⟨a',vs,e,s,r⟩:=h;cases e;exact ⟨vs,s,r⟩
 |lst xs=>obtain ⟨a',vs,e',s,r⟩:=zcd hM h (show rdD M (.lst xs)=some ds from e);cases e';exact ⟨vs,s,r⟩
 |frz xs=>obtain ⟨a',vs,e',s,r⟩:=zcd hM h (show rdD M (.frz xs)=some ds from e);cases e';exact ⟨vs,s,r⟩
 |cell k=>obtain ⟨a',vs,e',s,r⟩:=zcd hM h (show rdD M (.cell k)=some ds from e);cases e';exact ⟨vs,s,r⟩
 |_=>cases e
theorem zsg {fa:Fa}{X:Cx}{pins:List (Addr×Obj)}{σ:L2.St}{μ:Mu}{H:Hp}{s:Shared}{M:Mem}{d:D}{v:V}(I:Inv X pins σ H s)(hM:RelM fa X.K μ H M)(h:Rep fa X.K μ H d v)(e:zd5 d=true):∃(a:Nat) (its:Array Value),v=.ref a/\zce (zh1 d) s.heap a its:=by
 have key:∀ds,zcp M d=some ds->∃(a:Nat) (its:Array Value),v=.ref a/\zce (zh1 d) s.heap a its:=fun ds z=>by
  obtain ⟨a,vs,rfl,_,_⟩:=zjf hM h z
  obtain ⟨vs,s1,_⟩:=zne hM h z
  obtain ⟨its,_,p⟩:=zkk I s1
  exact ⟨a,its.toArray,rfl,p⟩
 cases d with
 |tup xs=>exact key xs rfl
 |lst xs=>exact key xs rfl
 |frz xs=>exact key xs rfl
 | cell k =>
   obtain ⟨a,e,hk⟩:=id h
   obtain ⟨ds,_,z,_⟩:=hM.mu_lt hk
   exact key ds z
 |_=>cases e
theorem zce.lt {b:Bool}{h:Heap}{a:Addr}{its:Array Value}(x:zce b h a its):a<h.objs.size:=by
 cases b<;>(obtain ⟨o,ho,r⟩:=x;exact tqd ho)
theorem zce.push {b:Bool}{h:Heap}{a:Addr}{its:Array Value}(x:zce b h a its)(ob:Obj):zce b (h.push ob) a its:=by
 cases b<;>(obtain ⟨o,ho,r⟩:=x;exact ⟨o,tqc _ ho,r⟩)
def zrn (b:Bool)(a:Addr):Obj:={cls:=.type (if b then "list_iterator" else "tuple_iterator"),data:=.fields #[.ref a,.int 0 0]}
theorem zc7.new {b:Bool}{h:Heap}{it a:Addr}(e:h.get? it=some (zrn b a)):zc7 b h it a 0:=by
 cases b<;>exact ⟨_,e,rfl,rfl⟩
theorem zn6 {prog:Program}{w:World}{A:Around}{E:Value->Shared->Prop}{s:Shared}{b:Bool}{a:Addr}{its:Array Value}{Q:Value->Shared->Prop}(h:zce b s.heap a its)(hQ:Q (.ref s.heap.objs.size) {s with heap:=s.heap.push (zrn b a)}):wpAny (model prog w) A (pyIter (.ref a)) Q E s:=by
 cases b with
 |true=>exact wpAny_pyIter_list h hQ
 |false=>exact wpAny_pyIter_tuple h hQ
def Itz2 (K:PySem.W.Frag)(b0:Bool)(a0:Nat)(b1:Bool)(a1:Nat):It:=
 ⟨fun i H => (∃ xs x, SqB K H b0 a0 xs /\ xs[i]? = some x) /\ (∃ xs x, SqB K H b1 a1 xs /\ xs[i]? = some x),
  fun i H v H'=>∃p x0 x1,H p=none/\v=.ref p/\H'=upd H p (.tup [x0,x1])/\(∀xs,SqB K H b0 a0 xs->xs[i]?=some x0)/\(∀xs,SqB K H b1 a1 xs->xs[i]?=some x1),
  fun i H=>∃xs0 xs1,SqB K H b0 a0 xs0/\SqB K H b1 a1 xs1/\(xs0.length<=i\/xs1.length<=i)⟩
def zmd (n:Nat)(b0:Bool)(a0:Nat)(b1:Bool)(a1:Nat)(i:Nat)(h:Heap)(f0:Value):Prop:=IsZip h (n+4) (n+2) (n+3) f0/\h.get? (n+2)=some {cls:=.type "tuple",data:=.seq #[.ref n,.ref (n+1)]}/\(∃u0 u1,h.get? (n+3)=some {cls:=.type "tuple",data:=.seq #[u0,u1]})/\zc7 b0 h n a0 i/\zc7 b1 h (n+1) a1 i
theorem zmd.keep {n i:Nat}{a0 a1:Nat}{b0 b1:Bool}{h h':Heap}{f0:Value}(x:zmd n b0 a0 b1 a1 i h f0)(k:∀b∈[(n+4),n,(n+1),(n+2),(n+3)],∀o,h.get? b=some o->h'.get? b=some o):zmd n b0 a0 b1 a1 i h' f0:=by
 obtain ⟨h1,h2,⟨u0,u1,h3⟩,j0,j1⟩:=x
 exact ⟨k _ (by simp) _ h1,k _ (by simp) _ h2,⟨u0,u1,k _ (by simp) _ h3⟩,j0.at fun o e=>k _ (by simp) o e,j1.at fun o e=>k _ (by simp) o e⟩
theorem zxa {P:Program}{w:World}{K:PySem.W.Frag}{elts:List Expr}{kk:Nat}{pos:Pos}(n:Nat)(b0:Bool)(a0:Nat)(b1:Bool)(a1:Nat)(hn:a0<n/\a1<n) :
 Turn P w K (.Tuple elts kk pos) (Itz2 K b0 a0 b1 a1) [(n+4),n,(n+1),(n+2),(n+3)] (n+4) (fun i h=>zmd n b0 a0 b1 a1 i h .none) where
 mem:=by simp
 obj:=fun i h ⟨h1,h2,⟨u0,u1,h3⟩,j0,j1⟩ b hb=>by
  simp only [List.mem_cons,List.not_mem_nil,or_false] at hb
  rcases hb with z|z|z|z|z
  ·subst z;exact ⟨_,h1,fun v z=>by cases z⟩
  ·subst z;exact j0.obj
  ·subst z;exact j1.obj
  ·subst z;exact ⟨_,h2,fun v z=>by cases z⟩
  ·subst z;exact ⟨_,h3,fun v z=>by cases z⟩
 keep:=fun i h h' st k=>st.keep k
 item:=by
  intro X hP hw hK hc i pins s σ H E I hf st hg
  subst hP hw hK
  obtain ⟨⟨xs0,x0,hq0,hx0⟩,⟨xs1,x1,hq1,hx1⟩⟩:=hg
  obtain ⟨h1,h2,⟨u0,u1,h3⟩,j0,j1⟩:=st
  obtain ⟨its0,rv0,p0⟩:=zkk I hq0
  obtain ⟨w0,hw0,rw0⟩:=rv0.get hx0
  obtain ⟨its1,rv1,p1⟩:=zkk I hq1
  obtain ⟨w1,hw1,rw1⟩:=rv1.get hx1
  have hT:s.TypeIs (.ref (n+4)) "zip":=⟨_,h1,rfl⟩
  unfold pyNext
  refine tqa (wpAny_attempt (wpAny_callSpecial?_slot (name:=Str.ofString "__next__") hT F.slot_zip_next
   (wpAny_call_entry F.slot_zip_next hT F.entry_zip_next
    (zwz (E:=_) hn h1 h2 h3 j0 j1 p0 p1 (x0:=w0) (by simpa using hw0) (x1:=w1) (by simpa using hw1) fun h4 z1 z2 g0 g1 hTT hsz hk=>tqb ⟨_,rfl,?_⟩) (F.args_zip_next_1 _))))
  have hT0:H s.heap.objs.size=none:=I.hok.fresh (tqg _)
  have zlt:(n+4)<s.heap.objs.size:=tqd h1
  refine wpAny_letOwnedTupleGo_zip (s:={s with heap:=h4}) z1 fun h5 hz5 hs5=>?_
  have hT5:h5.get? s.heap.objs.size=some {cls:=.type "tuple",data:=.seq #[w0,w1]}:=(hs5.2 _ (Nat.ne_of_gt zlt)).trans hTT
  refine ⟨.ref s.heap.objs.size,upd H s.heap.objs.size (.tup [x0,x1]),zqc (s:=s) (t':=s.toks) I hf (fun b o hb q=>(hs5.2 b (fun z=>hb (by rw [z];simp))).trans (hk b o (fun z=>hb (by simp only [List.mem_cons,List.not_mem_nil,or_false] at z ⊢;rcases z with z|z|z|z<;>simp [z])) q)) (tqg _) ⟨?_,[w0,w1],.cons rw0 (.cons rw1 (.nil)),⟨_,hT5,rfl,_,rfl⟩⟩,rfl,
   ⟨_,x0,x1,hT0,rfl,rfl,fun ys hy=>by rw [zsh I hy hq0];exact hx0,fun ys hy=>by rw [zsh I hy hq1];exact hx1⟩,⟨hz5,hs5.extBut _ _ (zb8 (by omega)) (hk _ _ (by simp) h2),⟨w0,w1,hs5.extBut _ _ (zb8 (by omega)) z2⟩,g0.extBut hs5.extBut (zb8 (by omega)),g1.extBut hs5.extBut (zb8 (by omega))⟩,fun b hb=>?_⟩
  ·show 2<=sizeLine;decide
  ·have:b<s.heap.objs.size:=by
    have zl:(n+4)<s.heap.objs.size:=zlt
    simp only [List.mem_cons,List.not_mem_nil,or_false] at hb
    rcases hb with z|z|z|z|z<;>(rw [z];(first|exact zl|exact Nat.lt_trans (by omega) zl))
   rw [zaz (tqk this)];exact (hf b hb).1
 done:=by
  intro X hP hw hK hc i pins s σ H E I hf st hg
  subst hP hw hK
  obtain ⟨xs0,xs1,hq0,hq1,hend⟩:=hg
  obtain ⟨h1,h2,⟨u0,u1,h3⟩,j0,j1⟩:=st
  obtain ⟨its0,rv0,p0⟩:=zkk I hq0
  have hl0:=rv0.length
  obtain ⟨its1,rv1,p1⟩:=zkk I hq1
  have hl1:=rv1.length
  have hT:s.TypeIs (.ref (n+4)) "zip":=⟨_,h1,rfl⟩
  unfold pyNext
  refine tqa (wpAny_attempt (wpAny_callSpecial?_slot (name:=Str.ofString "__next__") hT F.slot_zip_next
   (wpAny_call_entry F.slot_zip_next hT F.entry_zip_next (zzb (I.ok.hd hc) hn h1 h2 h3 j0 j1 p0 p1 (by
    rcases hend with z|z
    ·exact .inl (by simp;omega)
    ·exact .inr (by simp;omega)
    ) fun h' e hk he=>?_) (F.args_zip_next_1 _))))
  obtain ⟨o,ho,hcl⟩:=he
  refine tqa (wpAny_isInstance (T:="StopIteration") (b:=true) ⟨o,ho,hcl⟩ isSubtype_stop ?_)
  exact tqb ⟨rfl,zuk (s:=s) I hf (t':=s.toks) fun b o hb q=>hk b o (fun z=>hb (by simp only [List.mem_cons,List.not_mem_nil,or_false] at z ⊢;rcases z with z|z|z|z<;>simp [z])) q⟩
 self:=fun _ _ _ _ _ st h=>wpAny_pyIter_zip st.1 h
abbrev znw (h:Heap)(b0:Bool)(a0:Nat)(b1:Bool)(a1:Nat):Heap:=h.push (zrn b0 a0)
abbrev zrh (h:Heap)(b0:Bool)(a0:Nat)(b1:Bool)(a1:Nat):Heap:=(znw h b0 a0 b1 a1).push (zrn b1 a1)
abbrev zrg (h:Heap)(b0:Bool)(a0:Nat)(b1:Bool)(a1:Nat):Heap:=(zrh h b0 a0 b1 a1).push {cls:=.type "tuple",data:=.seq #[.ref h.objs.size,.ref (znw h b0 a0 b1 a1).objs.size]}
abbrev zrf (h:Heap)(b0:Bool)(a0:Nat)(b1:Bool)(a1:Nat):Heap:=(zrg h b0 a0 b1 a1).push {cls:=.type "tuple",data:=.seq #[.none,.none]}
abbrev zkx (h:Heap)(b0:Bool)(a0:Nat)(b1:Bool)(a1:Nat):Heap:=(zrf h b0 a0 b1 a1).push {cls:=.type "zip",data:=.fields #[.none,.bool false,.bool false,.ref (zrh h b0 a0 b1 a1).objs.size,.ref (zrg h b0 a0 b1 a1).objs.size]}
theorem zv4 (b0:Bool)(a0:Nat)(b1:Bool)(a1:Nat)(xs0 xs1:Array Value) :
 Meets (Builtin.«zip.__new__» ⟨[.type "zip",.ref a0,.ref a1],[]⟩) (fun _ R s=>zce b0 s.heap a0 xs0/\zce b1 s.heap a1 xs1/\
  R (.ok (.ret (.ref (zrf s.heap b0 a0 b1 a1).objs.size))) {s with heap:=zkx s.heap b0 a0 b1 a1}):=
 .of_wp fun prog w A R s h=>by
  obtain ⟨hp,g,d,tk,os⟩:=s;obtain ⟨q0,q1,h⟩:=h
  have hsub:=sub_zip
  have L0:zce b0 (Shared.heap ⟨hp,g,d,tk,os⟩) a0 xs0:=q0
  have L1:zce b1 (Shared.heap ⟨(znw hp b0 a0 b1 a1),g,d,tk,os⟩) a1 xs1:=(q1).push _
  wp_walk using zn6 L0,zn6 L1
  exact ⟨_,rfl,h⟩
theorem zy5 {prog:Program}{w:World}{A:Around}{E:Value->Shared->Prop}{s:Shared}{a0 a1:Nat}{b0 b1:Bool}{xs0 xs1:Array Value}{Q:Value->Shared->Prop}(q0:zce b0 s.heap a0 xs0)(q1:zce b1 s.heap a1 xs1)
 (h:∀h',zmd s.heap.objs.size b0 a0 b1 a1 0 h' .none->(∀c o,s.heap.get? c=some o->h'.get? c=some o)->Q (.ref (s.heap.objs.size+4)) {s with heap:=h'}) :
 wpAny (model prog w) A (call (.type "zip") [.ref a0,.ref a1]) Q E s:=by
 refine callType_new F.called_zip (by decide) (F.typeCall_zip_2 _ _) (F.newCall_zip_2 _ _) (fun obj=>F.args_object_init_3 obj _ _) F.entry_zip_new (zv4 b0 a0 b1 a1 xs0 xs1) ⟨q0,q1,?_⟩
 have z1:(znw s.heap b0 a0 b1 a1).objs.size=s.heap.objs.size+1:=by rw [Heap.size_push]
 have z2:(zrh s.heap b0 a0 b1 a1).objs.size=s.heap.objs.size+2:=by rw [Heap.size_push,z1]
 have z3:(zrg s.heap b0 a0 b1 a1).objs.size=s.heap.objs.size+3:=by rw [Heap.size_push,z2]
 have z4:(zrf s.heap b0 a0 b1 a1).objs.size=s.heap.objs.size+4:=by rw [Heap.size_push,z3]
 have z5:(zkx s.heap b0 a0 b1 a1).objs.size=s.heap.objs.size+5:=by rw [Heap.size_push,z4]
 have g1:(zkx s.heap b0 a0 b1 a1).get? s.heap.objs.size=some _:=tqc _ (tqc _ (tqc _ (tqc _ (tqe _ rfl))))
 have g2:(zkx s.heap b0 a0 b1 a1).get? (znw s.heap b0 a0 b1 a1).objs.size=some _:=tqc _ (tqc _ (tqc _ (tqe _ rfl)))
 have g3:(zkx s.heap b0 a0 b1 a1).get? (zrh s.heap b0 a0 b1 a1).objs.size=some _:=tqc _ (tqc _ (tqe _ rfl))
 have g4:(zkx s.heap b0 a0 b1 a1).get? (zrg s.heap b0 a0 b1 a1).objs.size=some _:=tqc _ (tqe _ rfl)
 have g5:(zkx s.heap b0 a0 b1 a1).get? (zrf s.heap b0 a0 b1 a1).objs.size=some _:=tqe _ rfl
 show _/\_
 rw [z1] at g2
 rw [z2] at g3
 rw [z3] at g4
 rw [z4] at g5
 rw [z1] at g3
 rw [z2,z3] at g5
 rw [z4]
 exact ⟨⟨_,g5,rfl⟩,h _ ⟨g5,g3,⟨_,_,g4⟩,zc7.new g1,zc7.new g2⟩ fun c o x=>tqc _ (tqc _ (tqc _ (tqc _ (tqc _ (x)))))⟩
def zmf (d0 d1:D):Walk:=fun M=>(zcp M d0).bind fun y0=>(zcp M d1).map fun y1=>zif y0 y1
def zmo (g0 g1:Env->Mem->Res D):Env->Mem->Res Walk:=fun Z M=>(g0 Z M).bind fun d0 M=>(g1 Z M).bind fun d1 M=>if zd5 d0&&zd5 d1 then .ok (zmf d0 d1) M else .bad
theorem zrv:∀(y0 y1:List D) (i:Nat) (d:D),(zif y0 y1)[i]?=some d↔∃e0 e1,y0[i]?=some e0/\y1[i]?=some e1/\d=.tup [e0,e1]
 |c0::t0,c1::t1,0,d=>by simp [zif,eq_comm]
 | c0 :: t0, c1 :: t1, i + 1, d => by
   have:=zrv t0 t1 i d
   simpa [zif] using this
 |[],_,i,d=>by simp [zif]
 |_::_,[],i,d=>by simp [zif]
theorem zru:∀(y0 y1:List D) (i:Nat),(zif y0 y1).length<=i->y0.length<=i\/y1.length<=i
 |c0::t0,c1::t1,0,h=>by simp [zif] at h
 | c0 :: t0, c1 :: t1, i + 1, h => by
   have:=zru t0 t1 i (by simpa [zif] using h)
   simpa using this
 |[],_,i,h=>by simp
 |_::_,[],i,h=>by simp
theorem zw5 {fa:Fa}{X:Cx}{μ0:Mu}{H0:Hp}{d0 d1:D}{a0 a1:Nat}(r0:Rep fa X.K μ0 H0 d0 (.ref a0))(r1:Rep fa X.K μ0 H0 d1 (.ref a1)):zes fa X.K μ0 H0 (zmf d0 d1) (Itz2 X.K (zh1 d0) a0 (zh1 d1) a1):=fun μ H M ds x hM e=>by
 unfold zmf at e
 cases s0:zcp M d0 with
 |none=>simp [s0] at e
 |some y0=>
 cases s1:zcp M d1 with
 |none=>simp [s0,s1] at e
 |some y1=>
 simp only [s0,s1,Option.bind_some,Option.map_some,Option.some.injEq] at e
 subst e
 obtain ⟨v0,q0,l0⟩:=zne hM (Rep.extW x r0) s0
 obtain ⟨v1,q1,l1⟩:=zne hM (Rep.extW x r1) s1
 refine ⟨fun i d hd=>?_,fun i hi=>⟨v0,v1,q0,q1,?_⟩⟩
 ·obtain ⟨e0,e1,h0,h1,rfl⟩:=(zrv y0 y1 i d).mp hd
  obtain ⟨w0,hw0,rw0⟩:=l0.get h0
  obtain ⟨w1,hw1,rw1⟩:=l1.get h1
  refine ⟨⟨⟨v0,w0,q0,hw0⟩,⟨v1,w1,q1,hw1⟩⟩,fun y H' ⟨p,x0,x1,hp,ey,eH,t0,t1⟩=>?_⟩
  have z0:=t0 v0 q0
  rw [hw0] at z0;cases z0
  have z1:=t1 v1 q1
  rw [hw1] at z1;cases z1
  subst eH ey
  exact ⟨Ext.alloc hM hp,hM.alloc hp,p,[w0,w1],rfl,.inl (.inl zcf),⟨w0,[w1],rfl,rw0.ext (Ext.alloc hM hp),⟨w1,[],rfl,rw1.ext (Ext.alloc hM hp),rfl⟩⟩⟩
 ·rcases zru y0 y1 i hi with z|z
  ·exact .inl (by rw [l0.length];exact z)
  ·exact .inr (by rw [l1.length];exact z)
theorem z44 {fa:Fa}{X:Cx}{elts:List Expr}{kk:Nat}{tp p pos:Pos}{e0 e1:Expr}{g0 g1:Env->Mem->Res D}(h0:DE fa X e0 g0)(h1:DE fa X e1 g1)(hg:Gl X "zip")(hm:X.mg "zip"=none)
 (hs0:starEach [e0,e1] X.env=[(false,eval e0 X.env),(false,eval e1 X.env)]) (hs1:starEach [e1] X.env=[(false,eval e1 X.env)]):DI fa X (.Tuple elts kk tp) (.Call (.Name "zip" p) [e0,e1] [] pos) (zmo g0 g1):=by
 intro pins s σ H R I ⟨μ,Z,M,hE,hM,h⟩
 obtain ⟨d0,M0,c0,t0⟩:=zbg h
 obtain ⟨d1,M1,c1,t1⟩:=zbg t0
 split at t1
 ·next hsq=>
  simp only [Bool.and_eq_true] at hsq
  obtain ⟨hq0,hq1⟩:=hsq
  refine Call_ (zia I hg hm boot_zip (PyProof.Rows.callWith_type1 (thn (zcq h0 (zcq h1 zd9 hs1) (by rw [hs0,hs1]) pos pins s σ H (fun vs H1=>∃v0 v1 μ1,vs=[v0,v1]/\Ext μ H μ1 H1/\RelM fa X.K μ1 H1 M1/\Rep fa X.K μ1 H1 d0 v0/\Rep fa X.K μ1 H1 d1 v1) I ?_) fun us s1 ⟨vs,H1,I1,r1,v0,v1,μ1,ev,x1,m1,rv0,rv1⟩=>?_) (by rw [hs0,hs1]) (by rw [hs1];rfl)))
  ·refine ⟨μ,Z,M,hE,hM,?_⟩
   rw [c0]
   intro v0 H1 μ1 x1 m1 r0
   refine ⟨μ1,Z,M0,(hE.ext x1),m1,?_⟩
   rw [c1]
   intro v1 H2 μ2 x2 m2 r1
   exact ⟨v0,v1,μ2,rfl,(x1.trans x2),m2,(r0.ext x2),r1⟩
  subst ev
  obtain ⟨a0,its0,rfl,z0⟩:=zsg I1 m1 rv0 hq0
  obtain ⟨a1,its1,rfl,z1⟩:=zsg I1 m1 rv1 hq1
  cases r1 with
  | cons y0 r1 =>
    cases r1 with
    | cons y1 r1 =>
      cases r1
      obtain rfl:=y0
      obtain rfl:=y1
      refine zy5 z0 z1 fun h1 za hk=>?_
      have I2:Inv X pins σ H1 {s1 with heap:=h1}:=I1.kept (t':=s1.toks) hk
      refine wpAny_pyIter_zip (s:={s1 with heap:=h1}) za.1 ?_
      refine ⟨s1.heap.objs.size+4,[s1.heap.objs.size+4,s1.heap.objs.size,s1.heap.objs.size+1,s1.heap.objs.size+2,s1.heap.objs.size+3],_,_,H1,rfl,I2,zxa s1.heap.objs.size (zh1 d0) a0 (zh1 d1) a1 ⟨z0.lt,z1.lt⟩,za,fun b hb=>?_,t1 _ H1 μ1 x1 m1 (zw5 rv0 rv1)⟩
      have hb:s1.heap.objs.size<=b:=by
       simp only [List.mem_cons,List.not_mem_nil,or_false] at hb
       rcases hb with z|z|z|z|z<;>(rw [z];first|exact tqg _|exact Nat.le_add_right _ _)
      exact I1.fpOk hb (I1.hok.fresh hb)
 ·exact t1.elim
def zipW3 (d0 d1 d2:D):Walk:=fun M=>(zcp M d0).bind fun y0=>(zcp M d1).bind fun y1=>(zcp M d2).map fun y2=>zip3L y0 y1 y2
def gZip3 (g0 g1 g2:Env->Mem->Res D):Env->Mem->Res Walk:=fun Z M=>(g0 Z M).bind fun d0 M=>(g1 Z M).bind fun d1 M=>(g2 Z M).bind fun d2 M=>if zd5 d0&&zd5 d1&&zd5 d2 then .ok (zipW3 d0 d1 d2) M else .bad
end LD
namespace LD
open PySem PySem.Spec PyProof.Rows L2
abbrev GE:=Env->Mem->Res D
abbrev GT:=Env->Mem->Res Bool
abbrev GA:=Env->Mem->Res (List D)
abbrev GW:=Env->Mem->Res Walk
abbrev GS:=Env->Mem->Res Fl
abbrev GB:=Env->List D->Mem->Res (List D)
abbrev Call:=Nat->List D->Mem->Res D
def zad (i:Nat):GE:=fun Z M=>ofO M (Z[i]?.getD none)
def gC (d:D):GE:=fun _ M=>.ok d M
def zaq (m:Bool)(o:Bin)(a b:GE):GE:=fun Z M=>(a Z M).bind fun x M=>(b Z M).bind fun y M=>zei m o x y M
def za9 (o:Cmp)(a b:GE):GE:=fun Z M=>(a Z M).bind fun x M=>(b Z M).bind fun y M=>(ofO M (zb2 o x y M)).bind fun b M=>.ok (.bl b) M
def zkb (o o':Cmp)(a b c:GE):GE:=fun Z M=>(a Z M).bind fun x M=>(b Z M).bind fun y M=>(ofO M (zb2 o x y M)).bind fun k M=>
 if k then (c Z M).bind fun z M=>(ofO M (zb2 o' y z M)).bind fun b M=>.ok (.bl b) M else .ok (.bl false) M
def zfn (a:GE):GE:=fun Z M=>(a Z M).bind fun x M=>match x with|.int i=>.ok (.int (-i)) M|_=>.bad
def zeh (a b:GE):GE:=fun Z M=>(a Z M).bind fun x M=>match x with|.bl true=>b Z M|.bl false=>.ok (.bl false) M|_=>.bad
def gNot (a:GE):GE:=fun Z M=>(a Z M).bind fun x M=>match x with|.bl k=>.ok (.bl (!k)) M|_=>.bad
def ze0 (t:GT)(a b:GE):GE:=fun Z M=>(t Z M).bind fun k M=>if k then a Z M else b Z M
def za4 (a b:GE):GE:=fun Z M=>(a Z M).bind fun x M=>(b Z M).bind fun y M=>ofO M (zf6 x y M)
def zct (m hl hh:Bool)(a lo hi:GE):GE:=fun Z M=>(a Z M).bind fun x M=>(lo Z M).bind fun l M=>(hi Z M).bind fun h M=>if zci hl l&&zci hh h then zew m x l h M else .bad
def zaj:GA:=fun _ M=>.ok [] M
def zaa (a:GE)(s:GA):GA:=fun Z M=>(a Z M).bind fun x M=>(s Z M).bind fun xs M=>.ok (x::xs) M
def zc4 (s:GA):GE:=fun Z M=>(s Z M).bind zle
def zbd (m:Bool)(s:GA):GE:=fun Z M=>(s Z M).bind (zb6 m)
def zao (f:Nat)(c:Call)(s:GA):GE:=fun Z M=>(s Z M).bind fun ds M=>c f ds M
def zl7 (i:Nat)(c:Call)(s:GA):GE:=fun Z M=>match Z[i]?.getD none with|some (.fn f)=>(s Z M).bind fun ds M=>c f ds M|_=>.bad
def zbh (f:Blt)(s:GA):GE:=fun Z M=>(s Z M).bind fun ds M=>zff f ds M
def zcb (t:Ty)(a:GE):GE:=fun Z M=>(a Z M).bind fun x M=>(ofO M (zca t x)).bind fun b M=>.ok (.bl b) M
def zau (a:GE):GT:=fun Z M=>(a Z M).bind fun x M=>ofO M (zj7 M x)
def zhm (a b:GT):GT:=fun Z M=>(a Z M).bind fun k M=>if k then b Z M else .ok false M
def tOr (a b:GT):GT:=fun Z M=>(a Z M).bind fun k M=>if k then .ok true M else b Z M
def zb7 (a:GT):GT:=fun Z M=>(a Z M).bind fun k M=>.ok (!k) M
def za6 (t:Tgt)(a:GE):GS:=fun Z M=>(a Z M).bind fun x M=>(ofO M (zde t x Z)).bind fun ρ1 M=>.ok (.next ρ1) M
def zhr (a b d:GE):GS:=fun Z M=>(d Z M).bind fun z M=>(a Z M).bind fun x M=>(b Z M).bind fun y M=>match x,y with
 | .cell k, .int n => match M[k]? with
   | some ds => match ixN ds.length n with
     |some j=>.ok (.next Z) (M.set k (ds.set j z))
     |none=>.bad
   |none=>.bad
 |_,_=>.bad
def znh (a d:GE):GS:=fun Z M=>(a Z M).bind fun x M=>(d Z M).bind fun z M=>match x with
 | .cell k => match M[k]? with
   |some ds=>if ds.length<sz then .ok (.next Z) (M.set k (ds++[z])) else .bad
   |none=>.bad
 |_=>.bad
def zbb (a:GE):GS:=fun Z M=>(a Z M).bind fun x M=>.ok (.ret x) M
def sRetN:GS:=fun _ M=>.ok (.ret .non) M
def sPass:GS:=fun Z M=>.ok (.next Z) M
def sBad:GS:=fun _ _=>.bad
def zbc (c:GT)(a b:GS):GS:=fun Z M=>(c Z M).bind fun k M=>if k then a Z M else b Z M
def zik (t:Tgt)(w:GW)(b:GS):GS:=fun Z M=>(w Z M).bind fun w M=>zej (zgw t b) w (.next Z) M
def zak:GS:=fun Z M=>.ok (.next Z) M
def zaf (a b:GS):GS:=fun Z M=>(a Z M).bind fun fl M=>match fl with
 |.next Z=>b Z M
 |fl=>.ok fl M
def notStar:Expr->Bool
 |.Starred _ _=>false
 |_=>true
theorem zck {a:Expr}{es:List Expr}{env:PySem.Env}(h:notStar a=true):starEach (a::es) env=(false,eval a env)::starEach es env:=by
 cases a<;>first|rfl|cases h
theorem zdl {pos:Pos}{env:PySem.Env}:∀{es:List Expr},es.all notStar=true->(backTo pos (starEach es env)).any (·.1)=false
 |[],_=>rfl
 | a :: es, h => by
   simp only [List.all_cons,Bool.and_eq_true] at h
   have ih:=zdl (pos:=pos) (env:=env) h.2
   rw [zck h.1]
   simpa [backTo] using ih
section
variable {fa:Fa}{X:Cx}{a b d:Expr}{ga gb gd:GE}{ta tb:GT}{pos p:Pos}{es:List Expr}{gs:GA}{n:Nat}
theorem r_gint {x:Str}{i:Int}{t:Tok}(hg:Gl X x)(hm:X.mg x=some (.int i t))(hd:(x==("__debug__":Str))=false):DE fa X (.Name x pos) (gC (.int i)):=zkt (v:=.int i) (zkm hg hm ⟨t,rfl⟩ hd) fun _ _=>rfl
theorem zxs (m:Bool){i:Nat}{y:Str}{py spos:Pos}{elt tg iter:Expr}{ifs:List Expr}{rest:List Comprehension}{scope:Scope}{own bn:List Str}{t:Tgt}{W:List Nat}{body:Addr->PySem.Env->Sem Unit}{gw:GW}{g:GB}
 (S:zfw X own bn scope) (hcalm:X.calm=true) (hi:DI fa X tg iter gw) (B:Block fa X own bn scope tg t W body g) (hT:zo2 X elt tg iter ifs rest scope pos body) (hW:∀i∈W,i∉slots t) (hn:∀i∈slots t++W,i<own.length)
 (hs:∀x,foldedSetIterable iter X.env x=pure x) (hN:X.N.Nodup) (hy:X.N[i]?=some y) (hl:X.env.scope.names.lookup y=some .local)
 (hsw:swapsWith (.ListComp elt (⟨tg,iter,ifs,0⟩::rest) scope pos) (some (.Name y py)) spos.line X.env=pure true) :
 DS fa X (.Assign [.Name y py] (.ListComp elt (⟨tg,iter,ifs,0⟩::rest) scope pos) spos) (za6 (.one i) (zcs m own.length t gw g)):=zwp m S hcalm hi B hT hW hn hs hN hy hl hsw
end
structure Df where
 params:Nat
 slots:Nat
 body:Call->GS
def finD:Fl->Mem->Res D
 |.ret d,M=>.ok d M
 |.next _,M=>.ok .non M
 |.exc x _,M=>.err x M
def finR:Res Fl->Res D
 |.ok fl M=>finD fl M
 |_=>.bad
def zfl (c:Call)(d:Df)(ds:List D)(M:Mem):Res D:=if ds.length=d.params then finR (d.body c (ds.map some++List.replicate (d.slots-ds.length) none) M) else .bad
def zal (P:Nat->Option Df):Nat->Call
 |0,_,_,_=>.bad
 | n + 1, f, ds, M => match P f with
   |none=>.bad
   |some d=>zfl (zal P n) d ds M
structure zrt (fa:Fa) (P:Program) (w:World) (K:PySem.W.Frag) (mg:Str->Option Value) (base:Heap) (f:Nat) (d:Df):Prop where
 ex:∃(ad:Addr) (fd:FuncData) (ps N:List Str) (st:Stmt) (x qual:Str),fa f=some ad/\Fun K x qual st ad fd/\Binds K fd ps []/\zf2 N ps (za0 st)/\d.params=ps.length/\d.slots=N.length/\
  ∀ (call : Call) (n : Nat) (cdv : Value) (A : Around) (outer : List PySem.Env) (s : Shared) (H : Hp) (E : XK), (∀ f, zgc fa P w K mg base n f (call f)) -> zcl (n + 4) (A.deeper (envOfC qual (za0 st) s.heap.objs.size ad cdv)) ->
    DSs fa (zfe (CXE P w) P w K mg base N qual (za0 st) ad cdv A outer s H E) (zdg st) (d.body call)
theorem zxh {fa:Fa}{K:PySem.W.Frag}{μ:Mu}{H:Hp}{N:List Str}{ds:List D}{vs:List V}(h:za7 fa K μ H ds vs):zbu fa K μ H (L2.start N vs) (ds.map some++List.replicate (N.length-ds.length) none):=by
 have hl:=h.length
 refine ⟨by unfold L2.start;simp [hl],fun i d e=>?_⟩
 by_cases hi:i<ds.length
 ·rw [List.getElem?_append_left (by simpa using hi),List.getElem?_map] at e
  cases e1:ds[i]? with
  |none=>rw [e1] at e;cases e
  | some d' =>
    rw [e1] at e
    cases e
    obtain ⟨v,hv,rv⟩:=h.get e1
    refine ⟨v,?_,rv⟩
    unfold L2.start
    rw [List.getElem?_append_left (by simp;omega),List.getElem?_map,hv]
    rfl
 ·rw [List.getElem?_append_right (by simp;omega),List.getElem?_replicate] at e
  split at e<;>cases e
theorem zpx {P:Program}{w:World}{K:PySem.W.Frag}{mg:Str->Option Value}{base:Heap}{x qual:Str}{st:Stmt}{f:Addr}{fd:FuncData}{N ps:List Str}{k:Nat}{sp:Sp}(F:Fun K x qual st f fd)(S:zf2 N ps (za0 st))(len:∀vs H Q E,sp vs H Q E->vs.length=ps.length)
 (hbody:∀(cdv:Value) (A:Around) (outer:List PySem.Env) (s:Shared) (H:Hp) (vs:List V) (Q:VK) (E:XK),zcl k (A.deeper (envOfC qual (za0 st) s.heap.objs.size f cdv))->sp vs H Q E->
  ∃t,PSs (zfe (CXE P w) P w K mg base N qual (za0 st) f cdv A outer s H E) (zdg st) t/\t {nx:=fun _ H'=>Q .non H',rt:=Q} (start N vs) H):zkf P w K mg base (CXE P w) (k+1) f fd ps sp:=by
 obtain ⟨oc,od,kV,doc,pm,an,cdv,ct,osl,rfl,lk,hcd⟩:=F.ex
 exact fn_of lk hcd S len fun A outer s H vs Q E hr hsp=>hbody cdv A outer s H vs Q E hr hsp
theorem zqy {fa:Fa}{P:Program}{w:World}{K:PySem.W.Frag}{mg:Str->Option Value}{base:Heap}{N:List Str}{qual:Str}{scope:Scope}{f:Addr}{cd:Value}{A:Around}{outer:List PySem.Env}{s:Shared}{H:Hp}{E:XK}{Q:VK}{d:Df}{c:Call}{ds:List D}{vs:List V}{μ:Mu}{M:Mem}
 (hs:d.slots=N.length) (hM:RelM fa K μ H M) (hr:za7 fa K μ H ds vs) (hq:okX (zfl c d ds M) (zbs fa K μ H Q) (zww fa K μ H E)):tF fa (zfe (CXE P w) P w K mg base N qual scope f cd A outer s H E) (d.body c) {nx:=fun _ H'=>Q .non H',rt:=Q} (start N vs) H:=by
 unfold zfl at hq
 split at hq
 ·refine ⟨μ,_,M,zxh hr,hM,?_⟩
  rw [<- hs]
  cases e1:d.body c (ds.map some++List.replicate (d.slots-ds.length) none) M with
  | ok fl M1 =>
    rw [e1] at hq
    cases fl with
    | next ρ' =>
      have q1:zbs fa K μ H Q .non M1:=hq
      exact fun σ' H' μ' x' e' m'=>q1 .non H' μ' x' m' rfl
    |ret d=>exact hq
    | exc x ρ' =>
      have q1:zww fa K μ H E x M1:=hq
      exact fun pins σ' H' μ' s' a C dx c p I y _ m ex hc hn fl=>z1j I fl (q1 C dx c p H' μ' y m ex hc hn)
  |err=>rw [e1] at hq;exact hq.elim
  |bad=>rw [e1] at hq;exact hq.elim
 ·exact hq.elim
theorem zt3 {fa:Fa}{P:Program}{w:World}{K:PySem.W.Frag}{mg:Str->Option Value}{base:Heap}{Pg:Nat->Option Df}(h:∀f d,Pg f=some d->zrt fa P w K mg base f d):∀(n f:Nat),zgc fa P w K mg base n f (zal Pg n f)
 |0,f=>.inl fun _ _=>rfl
 | n + 1, f => by
   have ih:=zt3 h n
   cases e:Pg f with
   |none=>exact .inl fun ds M=>by show (match Pg f with|none=>Res.bad|some d=>zfl (zal Pg n) d ds M)=Res.bad;rw [e]
   | some d =>
     have eq:∀ds M,zal Pg (n+1) f ds M=zfl (zal Pg n) d ds M:=fun ds M=>by show (match Pg f with|none=>Res.bad|some d=>zfl (zal Pg n) d ds M)=_;rw [e]
     obtain ⟨ad,fd,ps,N,st,x,qual,h1,F,hb,S,hp,hs,hbody⟩:=(h f d e).ex
     refine .inr ⟨ad,fd,ps,h1,F.kp,hb,fun ds M hl=>?_,?_⟩
     ·rw [eq];unfold zfl;rw [if_neg (by rw [hp];exact hl)]
     ·refine zpx (k:=n+4) F S (fun vs H Q E hsp=>hsp.1) fun cdv A outer s H vs Q E hr hsp=>⟨_,hbody (zal Pg n) n cdv A outer s H E ih hr,?_⟩
      obtain ⟨hl,μ,M,ds,hM,hr,hq⟩:=hsp
      rw [eq] at hq
      exact zqy hs hM hr hq
end LD
namespace LD
open PySem PySem.Spec PyProof.Rows L2
def znv (P:Params)(e:DictEntry)(kv:Str×Addr):Prop:=∃t,e=⟨PyData.keyHash P kv.1,.str kv.1 t,.ref kv.2⟩
structure zix (K:PySem.W.Frag) (P:Params) (a:Addr) (kvs:List (Str×Addr)):Prop where
 ex:∃(es:Array DictEntry) (n:Nat),K.lookup a=some {cls:=.type "dict",data:=.dict es n}/\Paired (znv P) es.toList kvs
 nd:(kvs.map (·.1)).Nodup
 ns:(a==sysModules)=false
def kvV (kvs:List (Str×Addr)):List (Key×Value):=kvs.map fun kv=>(Sum.inr kv.1,.ref kv.2)
theorem ztu {P:Params}:∀{es:List DictEntry}{kvs:List (Str×Addr)},Paired (znv P) es kvs->∀e∈es,∃x t,e.key=.str x t/\e.hash=PyData.keyHash P x
 |_,_,.nil,e,h=>nomatch h
 | _, _, .cons r t, e, h => by
   rcases List.mem_cons.mp h with z|z
   ·subst z;obtain ⟨t,rfl⟩:=r;exact ⟨_,t,rfl,rfl⟩
   ·exact ztu t e z
theorem zow {prog:Program}{w:World}:∀{es:List DictEntry}{kvs:List (Str×Addr)},Paired (znv w.params) es kvs->Pairs (zko prog w) es (kvV kvs)
 |_,_,.nil=>.nil
 | e :: es, kv :: kvs, .cons r t => by
   obtain ⟨u,rfl⟩:=r
   exact Pairs.cons (kv:=((Sum.inr kv.1:Key),Value.ref kv.2)) (zjz kv.1 u) rfl (zow t)
theorem zth {X:Cx}{pins:List (Addr×Obj)}{σ:L2.St}{H:Hp}{s:Shared}{a:Addr}{kvs:List (Str×Addr)}(I:Inv X pins σ H s)(h:zix X.K X.w.params a kvs):s.heap.DictOf (zko X.prog X.w) a (kvV kvs):=by
 obtain ⟨es,n,lk,pr⟩:=h.ex
 refine ⟨_,es,n,I.kIn _ _ lk,⟨rfl,rfl,rfl⟩,rfl,fun e he=>?_,zow pr,?_⟩
 ·obtain ⟨x,t,e1,e2⟩:=ztu pr e (by simpa using he)
  exact ⟨Sum.inr x,by rw [e1];exact zjz x t,e2⟩
 ·have e:(kvV kvs).map (·.1)=(kvs.map (·.1)).map Sum.inr:=by unfold kvV;simp
  rw [e]
  exact List.Pairwise.map _ (fun a b (n:a≠b) z=>n (Sum.inr.inj z)) h.nd
theorem zym (kvs:List (Str×Addr))(k:Str):valueAt (kvV kvs) (Sum.inr k:Key)=(kvs.lookup k).map Value.ref:=by
 induction kvs with
 |nil=>rfl
 | cons kv r ih =>
   unfold valueAt kvV at ih ⊢
   rw [List.map_cons,List.find?_cons,List.lookup_cons]
   by_cases e:kv.1=k
   ·subst e;simp
   ·have e2:decide ((Sum.inr kv.1:Key)=Sum.inr k)=false:=decide_eq_false fun z=>e (Sum.inr.inj z)
    have e3:(k==kv.1)=false:=beq_eq_false_iff_ne.mpr (Ne.symm e)
    rw [e2,e3]
    exact ih
def zfj (fa:Fa)(kvs:List (Str×Addr))(fs:List (Str×Nat)):Prop:=Paired (fun (p:Str×Addr) (q:Str×Nat)=>p.1=q.1/\fa q.2=some p.2) kvs fs
theorem zfj.look {fa:Fa}{k:Str}:∀{kvs:List (Str×Addr)}{fs:List (Str×Nat)},zfj fa kvs fs->(fs.lookup k=none/\kvs.lookup k=none)\/∃f ad,fs.lookup k=some f/\kvs.lookup k=some ad/\fa f=some ad
 |_,_,.nil=>.inl ⟨rfl,rfl⟩
 | (x, a) :: r, (y, f) :: t, .cons ⟨e1, e2⟩ q => by
   have e1:x=y:=e1
   subst e1
   rw [List.lookup_cons,List.lookup_cons]
   cases e:k==x with
   |true=>exact .inr ⟨f,a,rfl,rfl,e2⟩
   |false=>exact zfj.look q
def zmr (fs:List (Str×Nat))(i:GE):GE:=fun Z M=>(i Z M).bind fun d M=>match d with
 |.str k=>ofO M ((fs.lookup k).map D.fn)
 |_=>.bad
def zmq (fs:List (Str×Nat))(i:GE):GE:=fun Z M=>(i Z M).bind fun d M=>match d with
 |.str k=>.ok (.bl (!(fs.lookup k).isSome)) M
 |_=>.bad
section
variable {fa:Fa}{X:Cx}{a b:Expr}{ga gb:GE}{pos p:Pos}{ad:Addr}{kvs:List (Str×Addr)}{fs:List (Str×Nat)}{x:Str}
theorem z1p (hd:zix X.K X.w.params ad kvs):IxR X (fun x y H Q=>∃k v,x=.ref ad/\y=.str k/\kvs.lookup k=some v/\Q (.ref v) H):=by
 intro value slice pins s σ H x y v u Q I rx ry h hs
 obtain ⟨k,c,rfl,rfl,hk,q⟩:=h
 cases rx
 obtain ⟨t,rfl⟩:=ry
 have dd:=zth I hd
 have hT:s.TypeIs (.ref ad) "dict":=let ⟨o,_,_,ho,⟨hc,_⟩,_⟩:=dd;⟨o,ho,hc⟩
 refine tail_any hT PySem.F.slot_dict_getitem.lookup (wpAny_getItem_of (k:=(Sum.inr k:Key)) (zjz k t) dd.mapOf (v:=.ref c) ?_ ?_) hs
 ·rw [zym,hk];rfl
 ·exact ⟨.ref c,H,I.tok _,rfl,q⟩
theorem z0n (hd:zix X.K X.w.params ad kvs):OpR X (compareOp .NotIn) (fun x y H Q=>∃k,x=.str k/\y=.ref ad/\Q (.bl (!(kvs.lookup k).isSome)) H):=by
 intro pins s σ H x y v u Q I rx ry h
 obtain ⟨k,rfl,rfl,q⟩:=h
 obtain ⟨t,rfl⟩:=rx
 cases ry
 have dd:=zth I hd
 refine wpAny_notIn_of (k:=(Sum.inr k:Key)) (zjz k t) hd.ns dd.mapOf ?_
 rw [zym,Option.isSome_map]
 exact ⟨.bl _,H,I.tok _,rfl,q⟩
theorem r_dget (hd:zix X.K X.w.params ad kvs)(ho:zfj fa kvs fs)(hg:Gl X x)(hm:X.mg x=some (.ref ad))(hdb:(x==("__debug__":Str))=false)(hb:DE fa X b gb)(hs:zkv b):DE fa X (.Subscript (.Name x p) b pos) (zmr fs gb):=
 zch (pe_ix (z1p hd) (zkm (v:=.ref ad) hg hm rfl hdb) hb hs) fun σ H Q ⟨μ,Z,M,hE,hM,h⟩=>t1 hE hM h fun d M1 v H1 μ1 x1 hE1 hM1 r1 h1=>by
  cases d with
  | str k =>
    obtain ⟨d,e,q⟩:=zml h1
    rcases ho.look (k:=k) with ⟨e1,_⟩|⟨f,c,e1,e2,e3⟩
    ·rw [e1] at e;cases e
    ·rw [e1] at e
     cases e
     exact ⟨k,c,rfl,r1,e2,q (.ref c) H1 μ1 x1 hM1 ⟨c,rfl,e3⟩⟩
  |_=>exact h1.elim
theorem z0q {d:D}{M1:Mem}{P:D->Mem->Prop}(h:okE (match d with|.str k=>Res.ok (.bl (!(fs.lookup k).isSome)) M1|_=>.bad) P):∃k,d=.str k/\P (.bl (!(fs.lookup k).isSome)) M1:=by
 cases d with
 |str k=>exact ⟨k,rfl,h⟩
 |_=>exact h.elim
theorem z12 (ho:zfj fa kvs fs)(k:Str):(kvs.lookup k).isSome=(fs.lookup k).isSome:=by
 rcases ho.look (k:=k) with ⟨e1,e2⟩|⟨f,c,e1,e2,_⟩<;>rw [e1,e2]<;>rfl
theorem i_dnot (ho:zfj fa kvs fs)(σ:L2.St)(H:Hp)(Q:VK)(h:tE fa X.K (zmq fs ga) σ H Q):tOp (fun x y H Q=>∃k,x=.str k/\y=.ref ad/\Q (.bl (!(kvs.lookup k).isSome)) H) (tE fa X.K ga) (tC (.ref ad)) σ H Q:=by
 obtain ⟨μ,Z,M,hE,hM,h⟩:=h
 refine t1 hE hM h fun d M1 v H1 μ1 x1 hE1 hM1 r1 h1=>?_
 obtain ⟨k,rfl,q⟩:=z0q h1
 refine ⟨k,r1,rfl,?_⟩
 rw [z12 ho]
 exact q (.bl _) H1 μ1 x1 hM1 rfl
theorem q_dnot (hd:zix X.K X.w.params ad kvs)(ho:zfj fa kvs fs)(hg:Gl X x)(hm:X.mg x=some (.ref ad))(hdb:(x==("__debug__":Str))=false)(ha:DE fa X a ga)(hmk:behindInMarks .NotIn (.Name x p)=false):DT fa X (.Compare a [.NotIn] [.Name x p] pos) (zau (zmq fs ga)):=
 zl2 (zuu (z0n hd) ha (zkm (v:=.ref ad) hg hm rfl hdb) hmk) fun σ H Q h=>by
  refine i_dnot ho σ H _ ?_
  obtain ⟨μ,Z,M,hE,hM,h⟩:=h
  obtain ⟨z,M3,e,q⟩:=zbg h
  refine ⟨μ,Z,M,hE,hM,?_⟩
  rw [e]
  have hz:∃k,z=.bl k:=by
   obtain ⟨d,M1,e1,e2⟩:=ze2 e
   cases d<;>first|(cases e2;exact ⟨_,rfl⟩)|cases e2
  obtain ⟨k,rfl⟩:=hz
  intro v H' μ' x' m' r'
  obtain rfl:v=.bl k:=r'
  exact ⟨k,rfl,q H' μ' x' m'⟩
def zl6 (m:Bool)(a:GE):GE:=fun Z M=>(a Z M).bind fun x M=>match x with
 |.int n=>if -(2^62)<=n/\n<2^20 then zb6 m ((List.range n.toNat).map fun (k:Nat)=>D.int (k:Int)) M else .bad
 |_=>.bad
theorem zwj:∀(n:Nat) (its:List Value),its.length=n->(∀(i:Nat) (v:Value),its[i]?=some v->∃t,v=.int (i:Int) t)->Vals ((List.range n).map fun (k:Nat)=>V.int (k:Int)) its:=by
 intro n its hl h
 have key:∀(k:Nat) (its:List Value),(∀(i:Nat) (v:Value),its[i]?=some v->∃t,v=.int ((k+i:Nat):Int) t)->Vals ((List.range its.length).map fun (j:Nat)=>V.int ((k+j:Nat):Int)) its:=by
  intro k its
  induction its generalizing k with
  |nil=>intro _;exact .nil
  | cons v r ih =>
    intro h
    rw [List.length_cons,List.range_succ_eq_map,List.map_cons,List.map_map]
    refine .cons (h 0 v rfl) ?_
    have:=ih (k+1) fun i u e=>by
     have:=h (i+1) u (by simpa using e)
     rw [show k+1+i=k+(i+1) by omega];exact this
    refine cast (congrArg (fun f=>Vals ((List.range r.length).map f) r) ?_) this
    funext j
    show V.int _=V.int _
    congr 2
    omega
 have:=key 0 its fun i v e=>by rw [Nat.zero_add];exact h i v e
 rw [hl] at this
 simpa using this
theorem z3q (m:Bool){p1 p2 pos2:Pos}(hc:X.calm=true)(ha:DE fa X a ga)(hgl:Gl X "list")(hml:X.mg "list"=none)(hg:Gl X "range")(hm:X.mg "range"=none)(hs:starEach [a] X.env=[(false,eval a X.env)])
 (hs2:starEach [.Call (.Name "range" p2) [a] [] pos2] X.env=[(false,eval (.Call (.Name "range" p2) [a] [] pos2) X.env)]) :
 DE fa X (.Call (.Name "list" p1) [.Call (.Name "range" p2) [a] [] pos2] [] pos) (zl6 m ga):=by
 intro pins s σ H Q I ⟨μ,Z,M,hE,hM,h⟩
 obtain ⟨x,M1,e,q⟩:=zbg h
 have key:∀n,x=.int n->okE (if -(2^62)<=n/\n<2^20 then zb6 m ((List.range n.toNat).map fun (k:Nat)=>D.int (k:Int)) M1 else .bad) (zbs fa X.K μ H Q)->
  wpAny (model X.prog X.w) X.A (eval (.Call (.Name "list" p1) [.Call (.Name "range" p2) [a] [] pos2] [] pos) X.env) (EP X pins σ Q) X.xe s:=fun n en q'=>by
  subst en
  by_cases c:-(2^62)<=n/\n<2^20
  ·rw [if_pos c] at q'
   refine Call_ (zia I hgl hml (by decide +kernel:bootBuiltins "list"=some (.type "list")) (PyProof.Rows.callWith_type1 ?_ hs2 rfl))
   rw [hs2]
   refine Calls.spliced_cons ?_
   refine Call_ (zia I hg hm boot_range (PyProof.Rows.callWith_type1 (thn (zcq ha zd9 hs pos2 pins s σ H (fun vs H1=>∃μ1,vs=[.int n]/\Ext μ H μ1 H1/\RelM fa X.K μ1 H1 M1) I ⟨μ,Z,M,hE,hM,?_⟩) fun us s1 ⟨vs,H1,I1,r1,μ1,ev,x1,m1⟩=>?_) hs rfl))
   ·rw [e]
    intro v H1 μ1 x1 m1 r1
    obtain rfl:v=.int n:=r1
    exact ⟨μ1,rfl,x1,m1⟩
   subst ev
   cases r1 with
   | cons r rr =>
     cases rr
     obtain ⟨t,rfl⟩:=r
     refine call_range_1 ?_
     refine Calls.spliced_nil ?_
     refine call_list_range (n:=n.toNat) (I.ok.hd hc) (IsRange.new ..) (small_one (by omega) (by omega) (by omega) (by omega)) (by rw [rangeSize_one];split<;>omega) (by omega) fun h' tk acc' c' kp eS its=>?_
     obtain ⟨hsz,hit⟩:=its
     have I2:Inv X pins σ H1 {s1 with heap:=s1.heap.push {cls:=.type "range",data:=.fields #[.int 0 s1.toks,.int n t,.int 1 (s1.toks+1)]},toks:=s1.toks+1+1}:=I1.kept fun b o e=>tqc _ e
     have hv:Vals ((List.range n.toNat).map fun (k:Nat)=>V.int (k:Int)) acc'.toList:=zwj n.toNat acc'.toList (by simpa using hsz) fun i v e=>by
      obtain ⟨u,z⟩:=hit i v (by simpa using e)
      exact ⟨u,by rw [z];simp⟩
     have rl:za7 fa X.K μ1 H1 ((List.range n.toNat).map fun (k:Nat)=>D.int (k:Int)) ((List.range n.toNat).map fun (k:Nat)=>V.int (k:Int)):=by
      have:=za7.ints (fa:=fa) (K:=X.K) (μ:=μ1) (H:=H1) ((List.range n.toNat).map fun (k:Nat)=>(k:Int))
      simpa [List.map_map,Function.comp_def] using this
     obtain ⟨c1,k1⟩:=zgm m1 rl (okW q' x1)
     refine ⟨.ref _,_,I2.laid (t':=tk) (o:=.lst ((List.range n.toNat).map fun (k:Nat)=>V.int (k:Int))) kp (tqg _) ⟨?_,acc'.toList,c',hv,by simpa using eS⟩,rfl,k1 _ (I2.hok.fresh (tqg _))⟩
     rw [rl.length,<- zdt];exact c1
  ·rw [if_neg c] at q';exact q'.elim
 cases x with
 |int n=>exact key n rfl q
 |_=>exact q.elim
end
end LD
namespace LD
open PySem PySem.Spec PyProof.Rows L2
def zvb (bn N:List Str)(sc scope:Scope):Bool:=
 scope.names.all (fun y=>y.2 != .cell&&(y.2 != .local||scope.names.lookup y.1==some .local)&&(y.2 != .free||sc.names.lookup y.1==some .cell||sc.names.lookup y.1==some .free)) &&
 bn.length==N.length&&(bn.zip N).all fun p=>(p.1==p.2&&scope.names.lookup p.2 != some .local)||scope.names.lookup p.1==none
theorem zoe {α β:Type}{R:α->β->Prop}:∀{l:List α}{r:List β},l.length=r.length->(∀p∈l.zip r,R p.1 p.2)->Paired R l r
 |[],[],_,_=>.nil
 |a::l,b::r,h,g=>.cons (g (a,b) List.mem_cons_self) (zoe (by simpa using h) fun p hp=>g p (List.mem_cons_of_mem _ hp))
 |[],_::_,h,_=>by cases h
 |_::_,[],h,_=>by cases h
theorem zcu {X:Cx}{own bn N:List Str}{sc scope:Scope}(hk:scope.kind=.function)(hs:X.env.scope=sc)(hN:X.N=N)(h:zvb bn N sc scope=true):zfw X own bn scope:=by
 unfold zvb at h
 rw [Bool.and_eq_true,Bool.and_eq_true,List.all_eq_true,List.all_eq_true] at h
 obtain ⟨⟨h1,hl⟩,h2⟩:=h
 refine ⟨hk,fun y hy=>?_,fun y hy e=>?_,fun y hy e=>?_,?_⟩
 ·have:=h1 y hy
  simp only [Bool.and_eq_true] at this
  simpa using this.1.1
 ·have:=h1 y hy
  simp only [Bool.and_eq_true] at this
  have:=this.1.2
  rw [e] at this
  simpa using this
 ·have:=h1 y hy
  simp only [Bool.and_eq_true] at this
  have:=this.2
  rw [e] at this
  show X.env.scope.names.lookup y.1=_\/X.env.scope.names.lookup y.1=_
  rw [hs]
  simpa using this
 ·rw [hN]
  refine zoe (by simpa using hl) fun p hp=>?_
  have:=h2 p hp
  simp only [Bool.or_eq_true,Bool.and_eq_true,beq_iff_eq,bne_iff_ne] at this
  exact this
section
variable {fa:Fa}{X:Cx}{elt tg iter c t2 i2:Expr}{scope:Scope}{pos:Pos}{own bn:List Str}{t u:Tgt}{gw gw2:GW}{ge:GE}{gc:GT}
theorem zk9 {n:Nat}{l:List Nat}(h:l.all (· < n)=true):∀i∈l,i<n:=fun i hi=>by
 have:=List.all_eq_true.mp h i hi
 simpa using this
variable {i:Nat}{y:Str}{py spos:Pos}
end
end LD
namespace LD
open PySem PySem.Spec PyProof.Rows L2
theorem zit {α β:Type}{f g:α->Option β}:∀{l:List α},(∀x∈l,f x=g x)->l.filterMap f=l.filterMap g
 |[],_=>rfl
 | a :: l, h => by
   rw [List.filterMap_cons,List.filterMap_cons,h a List.mem_cons_self,zit (l:=l) fun x hx=>h x (List.mem_cons_of_mem _ hx)]
theorem zql (n:Nat)(xs:List Value)(h:xs.length=n):(List.range n).filterMap (fun (k:Nat)=>xs[n-1-k]?)=xs.reverse:=by
 have e:∀k∈List.range n,xs[n-1-k]?=some (xs.reverse.getD k .none):=fun k hk=>by
  have hk:=List.mem_range.mp hk
  rw [List.getD_eq_getElem?_getD,List.getElem?_reverse (by omega),h,List.getElem?_eq_getElem (by omega)]
  simp
 have:(List.range n).filterMap (fun (k:Nat)=>xs[n-1-k]?)=(List.range n).map fun k=>xs.reverse.getD k .none:=by
  rw [zit (g:=fun k=>some (xs.reverse.getD k .none)) e]
  simp
 rw [this]
 refine List.ext_getElem? fun i=>?_
 rw [List.getElem?_map]
 by_cases hi:i<n
 ·rw [List.getElem?_range hi]
  show some (xs.reverse.getD i .none)=_
  rw [List.getD_eq_getElem?_getD,List.getElem?_eq_getElem (show i<xs.reverse.length by simp;omega)]
  simp
 ·rw [List.getElem?_eq_none (by simp;omega),List.getElem?_eq_none (by simp;omega)]
  rfl
theorem zq7 (its:List Value):slicePick its.toArray none none (some (-1))=its.reverse.toArray:=by
 unfold slicePick sliceBounds sliceRange
 simp only [Option.getD_some,List.size_toArray]
 have e1:¬ ((-1:Int) > 0):=by decide
 simp only [e1,if_false]
 have e2:(if (its.length:Int)-1 > -1 then ((its.length:Int)-1 - -1 - -1-1) / (- -1) else 0).toNat=its.length:=by
  split
  ·simp
  ·omega
 rw [e2,List.filterMap_map,<- zql its.length its rfl]
 congr 1
 refine zit fun k hk=>?_
 have hk:=List.mem_range.mp hk
 have e3:((its.length:Int)-1+-1*(k:Int)).toNat=its.length-1-k:=by omega
 show its.toArray[((its.length:Int)-1+-1*(k:Int)).toNat]?=_
 rw [e3]
 simp
section
variable {prog:Program}{w:World}{A:Around}{E:Value->Shared->Prop}{s:Shared}
theorem zm5 {t sl:Addr}{items:Array Value}{k:Tok}{Q:Value->Shared->Prop}(ht:IsTup s.heap t items)(hs:s.heap.IsSliceOf sl .none .none (.int (-1) k))
 (h:Q (.ref s.heap.objs.size) {s with heap:=s.heap.push {cls:=.type "tuple",data:=.seq items.toList.reverse.toArray}})
 (hsz:items.size<=sizeLine):wpAny (model prog w) A (getItem (.ref t) (.ref sl)) Q E s:=by
 have htake:sizeOk (.seq items.toList.reverse.toArray):=by
  show items.toList.reverse.toArray.size<=sizeLine
  simpa using hsz
 obtain ⟨os,hos,hcs,hds⟩:=id hs
 have hTs:s.TypeIs (.ref sl) "slice":=⟨os,hos,hcs⟩
 unfold getItem
 try with_reducible refine tqo ?_
 first|refine tqa (tqb ?_)|skip
 refine tqa (wpAny_sequenceKey ht.typeIs (by decide) ?_)
 refine tqa (wpAny_callSpecial?_slot (name:=Str.ofString "__getitem__") ht.typeIs PyProof.Rows.slot_tuple_getitem
  (wpAny_call_entry PyProof.Rows.slot_tuple_getitem ht.typeIs entry_tuple_getitem ?_ (args_tuple_getitem _ _)))
 show wpAny _ _ (Builtin.Tuple.tupleItemsOf (.ref t) >>= _) _ _ s
 refine tqa (tupleItemsOf_ ht ?_)
 refine tqa (wpAny_typeOf hTs ?_)
 rw [if_pos (by decide)]
 unfold Builtin.Slice.sliceApplied Builtin.Slice.sliceFields
 refine tqa (tqa (tqa (tqf hos hds (x:=.none) rfl (tqa (tqf hos hds (x:=.none) rfl (tqa (tqf hos hds (x:=.int (-1) k) rfl (tqb ?_))))))))
 refine tqa (slicePart_int ?_)
 show wpAny _ _ (if ((-1:Int)==0)=true then _ else _) _ _ s
 rw [if_neg (by decide)]
 refine tqa (slicePart_none (tqa (slicePart_none (tqa (tqb ?_)))))
 have ea:Builtin.Slice.sliceAdjust none none (-1) (items.size:Int)=((items.size:Int)-1,-1):=by simp [Builtin.Slice.sliceAdjust]
 have ep:Builtin.Slice.slicePlaces ((items.size:Int)-1) (-1) (-1)=items.size:=by
  unfold Builtin.Slice.slicePlaces
  rw [if_neg (by decide)]
  split
  ·simp
  ·omega
 show wpAny _ _ (match Builtin.Slice.sliceAdjust none none (-1) (items.size:Int) with|(lo,hi)=>pure (lo,(-1:Int),Builtin.Slice.slicePlaces lo hi (-1))) _ _ s
 rw [ea]
 show wpAny _ _ (pure ((items.size:Int)-1,(-1:Int),Builtin.Slice.slicePlaces ((items.size:Int)-1) (-1) (-1))) _ _ s
 rw [ep]
 refine tqb ?_
 have hno:¬ ((((items.size:Int)-1)==0&&(-1:Int)==1&&items.size==items.size)=true):=by simp
 show wpAny _ _ (if (((items.size:Int)-1)==0&&(-1:Int)==1&&items.size==items.size)=true then _ else _) _ _ s
 rw [if_neg hno]
 have pick:((List.range items.size).filterMap fun (m:Nat)=>items[(((items.size:Int)-1)+(m:Int) * -1).toNat]?).toArray=items.toList.reverse.toArray:=by
  rw [<- zql items.size items.toList (by simp)]
  congr 1
  refine zit fun m hm=>?_
  have hm:=List.mem_range.mp hm
  have e3:((items.size:Int)-1+(m:Int) * -1).toNat=items.size-1-m:=by omega
  rw [e3]
  simp
 rw [pick]
 first
  |exact tqa (m:=Builtin.Tuple.tupleExact _) (wpAny_newObj_type (tqb ⟨_,rfl,tqb h⟩) htake)
  |exact tqa (m:=Builtin.Tuple.tupleExact _) (wpAny_newObj_type (tqa (tqb (tqb ⟨_,rfl,tqb h⟩))) htake)
  |exact tqa (tqa (m:=Builtin.Tuple.tupleExact _) (wpAny_newObj_type (tqb (tqb ⟨_,rfl,tqb h⟩)) htake))
  |exact tqa (tqa (m:=Builtin.Tuple.tupleExact _) (wpAny_newObj_type (tqb ⟨_,rfl,tqb h⟩) htake))
end
section
variable {fa:Fa}{X:Cx}{a st:Expr}{ga:GE}{pos p2:Pos}
def revD (m:Bool)(x:D)(M:Mem):Res D:=match x with
 |.tup xs=>.ok (.tup xs.reverse) M
 | x => match rdD M x with
   |some xs=>zb6 m xs.reverse M
   |none=>.bad
def gRev (m:Bool)(a:GE):GE:=fun Z M=>(a Z M).bind fun x M=>revD m x M
def rRev (K:PySem.W.Frag):V->Hp->VK->Prop:=fun x H Q=>∃a xs,x=.ref a/\((SqL K H a xs/\∀p,H p=none->Q (.ref p) (upd H p (.lst xs.reverse)))\/(SqT K H a xs/\∀p,H p=none->Q (.ref p) (upd H p (.tup xs.reverse))))
theorem znb:∀{xs:List V}{us:List Value},Vals xs us->Vals xs.reverse us.reverse
 |_,_,.nil=>.nil
 | _, _, .cons p r => by
   rw [List.reverse_cons,List.reverse_cons]
   exact (znb r).append (.cons p .nil)
theorem pe_rev {ta:TE}(ha:PE X a ta){ts:TE}(hst:PE X st ts) :
 PE X (.Subscript a (.Slice none none (some st) p2) pos) (fun σ H Q=>ta σ H fun x H1=>ts σ H1 fun y H2=>y=.int (-1)/\rRev X.K x H2 Q):=by
 intro pins s σ H Q I h
 refine Subscript_ (thn (ha pins s σ H _ I h) fun v s1 ⟨x,H1,I1,r1,q1⟩=>?_)
 refine wpAny_Slice ?_
 rw [evalPart_none]
 refine tqb ?_
 refine tqb ?_
 rw [evalPart_some]
 refine thn (hst pins s1 σ H1 _ I1 q1) fun vu s3 ⟨y,H3,I3,r3,ey,q3⟩=>?_
 subst ey
 obtain ⟨k,rfl⟩:=r3
 have I4:Inv X pins σ H3 {s3 with heap:=s3.heap.push {cls:=.type "slice",data:=.fields #[.none,.none,.int (-1) k]}}:=I3.kept (t':=s3.toks) fun b ob q=>tqc _ q
 have hsl:(s3.heap.push {cls:=.type "slice",data:=.fields #[.none,.none,.int (-1) k]}).IsSliceOf s3.heap.objs.size .none .none (.int (-1) k):=Heap.IsSliceOf.new ..
 obtain ⟨b,xs,rfl,q⟩:=q3
 cases r1
 have key:∃T id,typeLookup (.type T) "__getitem__"=pure (some (.builtin id))/\Shared.TypeIs {s3 with heap:=s3.heap.push {cls:=.type "slice",data:=.fields #[.none,.none,.int (-1) k]}} (.ref b) T/\wpAny (model X.prog X.w) X.A (getItem (.ref b) (.ref s3.heap.objs.size)) (EP X pins σ Q) X.xe {s3 with heap:=s3.heap.push {cls:=.type "slice",data:=.fields #[.none,.none,.int (-1) k]}}:=by
  rcases q with ⟨hx,q⟩|⟨hx,q⟩
  ·obtain ⟨its,r,ht,hz⟩:=I4.list hx
   have hlen:=r.length
   refine ⟨"list",_,slot_list_getitem.lookup,ht.isList.typeIs,?_⟩
   refine wpAny_getItem_list_slice ht.isList hsl .none .none (.int (-1) k) (by decide) ?_ (by rw [List.size_toArray]<;>omega)
   rw [zq7]
   refine ⟨.ref _,_,I4.laid (t':=s3.toks) (o:=.lst xs.reverse) (fun b ob q=>tqc _ q) (tqg _) ?_,rfl,q _ (I4.hok.fresh (tqg _))⟩
   exact ⟨by simpa using hz,_,0,znb r,tqe _ rfl⟩
  ·obtain ⟨its,r,ht,hz⟩:=I4.tuple hx
   have hlen:=r.length
   refine ⟨"tuple",_,PyProof.Rows.slot_tuple_getitem.lookup,ht.typeIs,?_⟩
   refine zm5 ht hsl ?_ (by rw [List.size_toArray,<- hlen];exact hz)
   refine ⟨.ref _,_,I4.laid (t':=s3.toks) (o:=.tup xs.reverse) (fun b ob q=>tqc _ q) (tqg _) ?_,rfl,q _ (I4.hok.fresh (tqg _))⟩
   exact ⟨by simpa using hz,_,znb r,IsTup.new _ _⟩
 obtain ⟨T,id,hT,ht,hg⟩:=key
 show wpAny (model X.prog X.w) X.A (subscriptTail a (.Slice none none (some st) p2) (.ref b) (.ref s3.heap.objs.size)) (EP X pins σ Q) X.xe {s3 with heap:=s3.heap.push {cls:=.type "slice",data:=.fields #[.none,.none,.int (-1) k]}}
 exact tail_any (ops:=[.ref b,.ref s3.heap.objs.size]) ht hT hg (by with_unfolding_all rfl)
theorem r_rev (m:Bool){pc pu:Pos}{k:Nat}(ha:DE fa X a ga):DE fa X (.Subscript a (.Slice none none (some (.UnaryOp .USub (.Constant (.int 1) k pc) pu)) p2) pos) (gRev m ga):=
 zch (pe_rev ha (pe_un zw9 zxz)) fun σ H Q ⟨μ,Z,M,hE,hM,h⟩=>t1 hE hM h fun x M1 v H1 μ1 x1 hE1 hM1 r1 h1=>by
  refine ⟨1,rfl,rfl,?_⟩
  have lst:∀(ds:List D) (b:Addr) (vs:List V),SqL X.K H1 b vs->za7 fa X.K μ1 H1 ds vs->okE (zb6 m ds.reverse M1) (zbs fa X.K μ H Q)->rRev X.K (.ref b) H1 Q:=fun ds b vs hs hr h1=>by
   obtain ⟨_,q⟩:=zgm hM1 hr.reverse (okW h1 x1)
   exact ⟨b,vs,rfl,.inl ⟨hs,q⟩⟩
  cases x with
  | tup ds =>
    obtain ⟨b,vs,rfl,hs,hr⟩:=r1
    exact ⟨b,vs,rfl,.inr ⟨hs,zhl hM1 hr.reverse (zbs.ext h1 x1)⟩⟩
  | lst ds =>
    obtain ⟨b,vs,rfl,hs,hr⟩:=r1
    exact lst ds b vs (SqL.of hs.1) hr h1
  | frz ds =>
    obtain ⟨b,vs,rfl,hs,hr⟩:=r1
    exact lst ds b vs (hs.elim (fun ⟨o,z⟩=>.inl (.inr ⟨o,z⟩)) .inr) hr h1
  | cell k =>
    obtain ⟨b,rfl,hk⟩:=r1
    obtain ⟨ds,vs,e,hH,hr⟩:=hM1.mu_lt hk
    have h1:okE (match M1[k]? with|some xs=>zb6 m xs.reverse M1|none=>.bad) (zbs fa X.K μ H Q):=h1
    rw [e] at h1
    exact lst ds b vs (SqL.of hH) hr h1
  |_=>exact h1.elim
end
end LD
namespace LD
open PySem PySem.Spec PyProof.Rows L2
theorem mm {fa:Fa}{mg:Str->Option Value}{i:Nat}{x:Str}{f:Addr}(e:fa i=some f)(m:mg x=some (.ref f)):∀ad,fa i=some ad->mg x=some (.ref ad):=fun ad h=>by rw [e] at h;cases h;exact m
theorem us1 {α:Type}{p:List α->Prop}(h:∀a,p [a])(us:List α)(hl:us.length=1):p us:=by
 obtain ⟨a,rfl⟩:=List.length_eq_one_iff.mp hl;exact h a
theorem us2 {α:Type}{p:List α->Prop}(h:∀a b,p [a,b]):∀(us:List α) (hl:us.length=2),p us
 |[a,b],_=>h a b
theorem us3 {α:Type}{p:List α->Prop}(h:∀a b c,p [a,b,c]):∀(us:List α) (hl:us.length=3),p us
 |[a,b,c],_=>h a b c
theorem us4 {α:Type}{p:List α->Prop}(h:∀a b c d,p [a,b,c,d]):∀(us:List α) (hl:us.length=4),p us
 |[a,b,c,d],_=>h a b c d
theorem mk_fn {K:PySem.W.Frag}{h:Heap}{mg:Str->Option Value}{f:Addr}{x:Str}{st:Stmt}{oc:Value}{od an:Option Addr}{osl:Array (Option Value)}{kV doc pm cdv ct:Value}(X:K.In h)(G:h.Ns mainGlobals mg)
 (a:PySem.W.nsIn K mainGlobals x=some (some (.ref f))) (l:K.lookup f=some ⟨oc,od,.func (PySem.W.fnOf x x (zfb st) (zdg st) (za0 st) .none kV doc pm an cdv ct),osl⟩)
 (c:PySem.W.codeIn K cdv x=true) (k:PySem.W.keepIn K (.ref f)=true):∃f fd,mg x=some (.ref f)/\Fun K x x st f fd:=⟨f,_,PySem.W.mg_of X G a,zyt l c k⟩
theorem zkn {K:PySem.W.Frag}{h:Heap}{mg:Str->Option Value}{x:Str}{i:Int}{t:Tok}(X:K.In h)(G:h.Ns mainGlobals mg)(a:PySem.W.nsIn K mainGlobals x=some (some (.int i t))):∃t,mg x=some (.int i t):=⟨t,PySem.W.mg_of X G a⟩
theorem zc3 {K:PySem.W.Frag}{h:Heap}{mg:Str->Option Value}{x:Str}{f:Addr}(X:K.In h)(G:h.Ns mainGlobals mg)(a:PySem.W.nsIn K mainGlobals x=some (some (.ref f))):mg x=some (.ref f):=PySem.W.mg_of X G a
theorem zea {K:PySem.W.Frag}{h:Heap}{mg:Str->Option Value}{x:Str}(X:K.In h)(G:h.Ns mainGlobals mg)(a:PySem.W.nsIn K mainGlobals x=some none):mg x=none:=PySem.W.mg_none_of X G a
theorem kd_nil {P:Params}:Paired (znv P) [] []:=.nil
theorem zmm {P:Params}{x:Str}{t:Tok}{a:Addr}{es:List DictEntry}{kvs:List (Str×Addr)}(h:Paired (znv P) es kvs):Paired (znv P) (⟨PyData.keyHash P x,.str x t,.ref a⟩::es) ((x,a)::kvs):=.cons ⟨t,rfl⟩ h
def spLaw (K:PySem.W.Frag):Sp:=fun vs H Q _=>∃(a:Addr) (ns:List Int),vs=[.ref a]/\SqL K H a (ns.map V.int)/\Only H/\ns.length<=63/\∀H',Q (.bl true) H'
theorem law_fn {fa:Fa}{P:Program}{w:World}{K:PySem.W.Frag}{mg:Str->Option Value}{base:Heap}{Pg:Nat->Option Df}{n f:Nat}{ad:Addr}{d:Df}{fd:FuncData}{N:List Str}{st:Stmt}{x qual y:Str}(h:∀f d,Pg f=some d->zrt fa P w K mg base f d)
 (hl:∀ns:List Int,ns.length<=63->∃M,zal Pg (n+1) f [.frz (ns.map D.int)] []=.ok (.bl true) M) (e:Pg f=some d) (F:Fun K x qual st ad fd) (S:zf2 N [y] (za0 st)) (hs:d.slots=N.length)
 (hbody:∀(call:Call) (n:Nat) (cdv:Value) (A:Around) (outer:List PySem.Env) (s:Shared) (H:Hp) (E:XK),(∀f,zgc fa P w K mg base n f (call f))->zcl (n+4) (A.deeper (envOfC qual (za0 st) s.heap.objs.size ad cdv))->
  DSs fa (zfe (CXE P w) P w K mg base N qual (za0 st) ad cdv A outer s H E) (zdg st) (d.body call)):zkf P w K mg base (CXE P w) (n+4+1) ad fd [y] (spLaw K):=by
 have eq:∀ds M,zal Pg (n+1) f ds M=zfl (zal Pg n) d ds M:=fun ds M=>by show (match Pg f with|none=>Res.bad|some d=>zfl (zal Pg n) d ds M)=_;rw [e]
 refine zpx F S (fun vs H Q E hsp=>?_) fun cdv A outer s H vs Q E hr hsp=>⟨_,hbody (zal Pg n) n cdv A outer s H E (zt3 h n) hr,?_⟩
 ·obtain ⟨a,ns,rfl,_⟩:=hsp;rfl
 ·obtain ⟨a,ns,rfl,hS,hO,hn,q⟩:=hsp
  obtain ⟨M',e'⟩:=hl ns hn
  rw [eq] at e'
  have rp:za7 fa K ⟨fun _=>none,[]⟩ H [.frz (ns.map D.int)] [.ref a]:=by
   refine ⟨.ref a,[],rfl,⟨a,ns.map V.int,rfl,?_,za7.ints ns⟩,rfl⟩
   rcases hS with (z|⟨o,z⟩)|z
   ·rcases hO a with y|⟨o,xs,y⟩
    ·rw [y] at z;cases z
    ·rw [y] at z;cases z
   ·exact .inl ⟨o,z⟩
   ·exact .inr z
  refine zqy (μ:=⟨fun _=>none,[]⟩) (M:=[]) hs ⟨fun k ds z=>by simp at z,fun _ _=>rfl,(fun _ _ _ z=>nomatch z),(fun _ z=>nomatch z)⟩ rp ?_
  rw [e']
  intro v H' μ' _ _ r
  obtain rfl:v=.bl true:=r
  exact q H'
theorem z3p {o:Option Value}{a b:Addr}(h:o=some (.ref a))(h':o=some (.ref b)):a=b:=by rw [h] at h';cases h';rfl
theorem zlm {fa:Fa}{x:Str}{a b:Addr}{i:Nat}{kvs:List (Str×Addr)}{fs:List (Str×Nat)}{o:Option Value}(h:fa i=some a)(h1:o=some (.ref a))(h2:o=some (.ref b))(r:zfj fa kvs fs):zfj fa ((x,b)::kvs) ((x,i)::fs):=
 .cons ⟨rfl,by rw [<- z3p h1 h2];exact h⟩ r
theorem z4j {K:PySem.W.Frag}{h:Heap}{mg:Str->Option Value}{x:Str}{ad:Addr}{P:Params}{es:Array DictEntry}{n:Nat}{kvs:List (Str×Addr)}{fa:Fa}{fs:List (Str×Nat)}(X:K.In h)(G:h.Ns mainGlobals mg)(a:PySem.W.nsIn K mainGlobals x=some (some (.ref ad)))
 (l:K.lookup ad=some {cls:=.type "dict",data:=.dict es n}) (he:Paired (znv P) es.toList kvs) (nd:(kvs.map (·.1)).Nodup) (ns:(ad==sysModules)=false) (dk:zfj fa kvs fs):∃ad kvs,mg x=some (.ref ad)/\zix K P ad kvs/\zfj fa kvs fs:=
 ⟨ad,kvs,PySem.W.mg_of X G a,⟨⟨es,n,l,he⟩,nd,ns⟩,dk⟩
end LD
namespace LD
open PySem PySem.Spec PyProof.Rows L2
theorem zxg (lo hi:Option Int)(n:Nat):Builtin.Str.strSliceIndices lo hi 1 n=(List.range (HT.sIx n n hi-HT.sIx n 0 lo)).map (HT.sIx n 0 lo+·):=by
 rw [<- sliceRange_one]
 unfold Builtin.Str.strSliceIndices
 simp only [show (1:Int) > 0 by decide,if_true]
 congr 1
 ·cases lo with
  |none=>rfl
  | some i =>
    simp only [HT.sIx]
    split<;>omega
 ·cases hi with
  |none=>rfl
  | some i =>
    simp only [HT.sIx]
    split<;>omega
def zhw (z:Str)(l h:Nat):Str:=⟨(cut z.cps.toList l h).toArray⟩
section
variable {fa:Fa}{X:Cx}{a b:Expr}{ga gb:GE}{pos p2:Pos}{tg:Expr}
theorem zss {v:Value}{o:Option Int}(h:IsPart v o):∃p:Option (Int×Tok),v=partValue p/\p.map (·.1)=o:=by
 cases h with
 |none=>exact ⟨none,rfl,rfl⟩
 |int i t=>exact ⟨some (i,t),rfl,rfl⟩
theorem sl_str:SlR X (fun x lo hi H Q=>∃z:Str,x=.str z/\z.cps.size<=sizeLine/\Q (.str (zhw z (HT.sIx z.cps.size 0 lo) (HT.sIx z.cps.size z.cps.size hi))) H):=by
 intro pins s σ H x v vl vu lo hi sl Q I rx hs pl pu h
 obtain ⟨z,rfl,hz,q⟩:=h
 obtain ⟨t,rfl⟩:=rx
 obtain ⟨l,rfl,el⟩:=zss pl
 obtain ⟨u,rfl,eu⟩:=zss pu
 refine ⟨"str",_,slot_str_getitem.lookup,typeIs_str s z t,?_⟩
 refine wpAny_getItem_str_slice (l:=l) (u:=u) (st:=none) hs rfl ?_
 have e:(slicePicked z l u none).filterMap (z.cps[·]?)=cut z.cps.toList (HT.sIx z.cps.size 0 lo) (HT.sIx z.cps.size z.cps.size hi):=by
  unfold slicePicked
  rw [el,eu]
  show (Builtin.Str.strSliceIndices lo hi 1 z.cps.size).filterMap _=_
  rw [zxg,pick_run]
  rfl
 unfold sliceMade
 split
 ·next c=>
  have c':(slicePicked z l u none).length=z.length:=by simpa using c
  have e2:zhw z (HT.sIx z.cps.size 0 lo) (HT.sIx z.cps.size z.cps.size hi)=z:=by
   have hl:HT.sIx z.cps.size z.cps.size hi-HT.sIx z.cps.size 0 lo=z.cps.size:=by
    unfold slicePicked at c'
    rw [el,eu] at c'
    have c':(Builtin.Str.strSliceIndices lo hi 1 z.cps.size).length=z.cps.size:=c'
    rw [zxg] at c'
    simpa using c'
   have hh:HT.sIx z.cps.size z.cps.size hi<=z.cps.size:=by
    cases hi with
    |none=>exact tqg _
    |some i=>simp only [HT.sIx];split<;>omega
   have h0:HT.sIx z.cps.size 0 lo=0\/z.cps.size=0:=by omega
   unfold zhw cut
   rw [hl]
   rcases h0 with h0|h0
   ·rw [h0]
    rcases z with ⟨zs⟩
    show (⟨(List.take zs.size (List.drop 0 zs.toList)).toArray⟩:Str)=⟨zs⟩
    rw [List.drop_zero,List.take_of_length_le (by simp)]
   ·have:z.cps=#[]:=Array.eq_empty_of_size_eq_zero h0
    rcases z with ⟨zs⟩
    simp at this
    subst this
    simp
  rw [e2] at q
  exact ⟨.str z,H,I,⟨t,rfl⟩,q⟩
 ·rw [e]
  refine ⟨?_,.str _,H,I.tok _,⟨_,rfl⟩,q⟩
  have:(cut z.cps.toList (HT.sIx z.cps.size 0 lo) (HT.sIx z.cps.size z.cps.size hi)).length<=z.cps.size:=by
   unfold cut
   rw [List.length_take,List.length_drop]
   simp
   omega
  show (cut z.cps.toList _ _).toArray.size<=sizeLine
  simp at this ⊢
  omega
def zmp (hl hh:Bool)(a lo hi:GE):GE:=fun Z M=>(a Z M).bind fun x M=>(lo Z M).bind fun l M=>(hi Z M).bind fun h M=>if zci hl l&&zci hh h then (match x with
 | .str z => if z.cps.size <= sz then (match sIx z.cps.size 0 l, sIx z.cps.size z.cps.size h with
   |some l,some h=>.ok (.str (zhw z l h)) M
   |_,_=>.bad) else .bad
 |_=>.bad) else .bad
theorem r_slcS (hl hh:Bool){lo hi:Option Expr}{gl gh:GE}(ha:DE fa X a ga)(hlo:DO fa X lo hl gl)(hhi:DO fa X hi hh gh):DE fa X (.Subscript a (.Slice lo hi none p2) pos) (zmp hl hh ga gl gh):=
 zch (zsr sl_str ha hlo hhi) fun σ H Q ⟨μ,Z,M,hE,hM,h⟩=>t1 hE hM h fun x M1 v H1 μ1 x1 hE1 hM1 r1 h1=>by
  obtain ⟨l,M2,e2,h2⟩:=zbg h1
  obtain ⟨u,M3,e3,h3⟩:=zbg h2
  split at h3
  ·next c=>
   rw [Bool.and_eq_true] at c
   obtain ⟨ol,el⟩:=part_of c.1
   obtain ⟨ou,eu⟩:=part_of c.2
   refine ⟨μ1,Z,M1,hE1,hM1,?_⟩
   rw [e2]
   refine ⟨ol,c.1,el,fun H2 μ2 x2 hM2=>⟨μ2,Z,M2,hE1.ext x2,hM2,?_⟩⟩
   rw [e3]
   refine ⟨ou,c.2,eu,fun H3 μ3 x3 hM3=>?_⟩
   cases x with
   | str z =>
     obtain rfl:v=.str z:=r1
     dsimp only at h3
     split at h3
     ·next hz=>
      simp only [zng,el,eu,Option.map_some] at h3
      exact ⟨z,rfl,by rw [<- zdt];exact hz,zbn (v:=.str _) hM3 (zbs.ext h3 ((x1.trans x2).trans x3)) rfl⟩
     ·exact h3.elim
   |_=>exact h3.elim
  ·exact h3.elim
def signs (z:Str):List D:=z.cps.toList.map fun c=>.str ⟨#[c]⟩
def Its (z:Str):It:=⟨fun i _=>i<z.cps.size,fun i H x H'=>H'=H/\∃c,z.cps[i]?=some c/\x=.str ⟨#[c]⟩,fun i _=>z.cps.size<=i⟩
theorem zr0 {P:Program}{w:World}{K:PySem.W.Frag}{n:String}(hn:["enumerate","zip","dict_itemiterator","dict_reverseitemiterator","odict_iterator","itertools.zip_longest","itertools.pairwise"].contains n=false)(it:Addr)(z:Str)(t:Tok)
 (W:∀A':Around,A'.handled=none->Walks P w A' it [it] [it] z.cps.size (SignAt z) (fun i h=>h.IsStrIter it n z t i))
 (S:∀(A:Around) (i:Nat) (s:Shared) (Q:Value->Shared->Prop) (E:Value->Shared->Prop),s.heap.IsStrIter it n z t i->Q (.ref it) s->wpAny (model P w) A (pyIter (.ref it)) Q E s)
 (D:∀(A:Around) (hh:A.handled=none) (i:Nat) (s:Shared) (Q:Option Value->Shared->Prop) (E:Value->Shared->Prop),s.heap.IsStrIter it n z t i->z.cps.size<=i->(∀h',(∀b o,b≠it->s.heap.get? b=some o->h'.get? b=some o)->Q none {s with heap:=h'})->wpAny (model P w) A (pyNext (.ref it)) Q E s) :
 Turn P w K tg (Its z) [it] it (fun i h=>h.IsStrIter it n z t i) where
 mem:=by simp
 obj:=fun i h st b hb=>by
  have e:b=it:=by simpa using hb
  subst e
  obtain ⟨o,e,c,d⟩:=st
  exact ⟨o,e,fun v z=>by rw [d] at z;cases z⟩
 keep:=fun i h h' st k=>let ⟨o,e,r⟩:=st;⟨o,k it (by simp) o e,r⟩
 item:=by
  intro X hP hw hK hc i pins s σ H E I hf st hg
  subst hP hw hK
  obtain ⟨f0,f1,f2,f3,f4,f5⟩:=hf it (by simp)
  refine (W X.A (I.ok.hd hc)).item i s _ _ hg st fun v h' tk hv st' kk=>?_
  obtain ⟨c,u,hc',rfl⟩:=hv
  have I1:Inv X pins σ H {s with heap:=h',toks:=tk}:=I.turned (fun b o hb e=>kk b o (by simpa using hb) e) f0 f1 f3 f4 f5
  obtain ⟨o,e,co,d⟩:=id st'
  exact ⟨_,rfl,zrq (s:={s with heap:=h',toks:=tk}) e co d hn ⟨.str ⟨#[c]⟩,H,I1,⟨u,rfl⟩,⟨rfl,c,hc',rfl⟩,st',fun b hb=>(hf b hb).1⟩⟩
 done:=by
  intro X hP hw hK hc i pins s σ H E I hf st hg
  subst hP hw hK
  obtain ⟨f0,f1,f2,f3,f4,f5⟩:=hf it (by simp)
  exact D X.A (I.ok.hd hc) i s _ _ st hg fun h' eb=>⟨rfl,I.turned (t':=s.toks) (fun b o hb e=>eb b o hb e) f0 f1 f3 f4 f5⟩
 self:=fun A i s Q E st h=>S A i s Q E st h
theorem pi_str {l:Expr}{tl:TE}(hl:PE X l tl):PI X tg l (fun σ H R=>tl σ H fun x H1=>∃z,x=.str z/\R (Its z) H1):=by
 intro pins s σ H R I h
 refine thn (hl pins s σ H _ I h) fun v s1 ⟨x,H1,I1,r1,q1⟩=>?_
 obtain ⟨z,rfl,q⟩:=q1
 obtain ⟨t,rfl⟩:=r1
 have fp:∀b∈[s1.heap.objs.size],zf8 X pins H1 b:=fun b hb=>by
  have e:b=s1.heap.objs.size:=by simpa using hb
  subst e
  exact I1.fpOk (tqg _) (I1.hok.fresh (tqg _))
 cases ha:z.cps.all (· < 128)
 ·refine wpAny_pyIter_wide ha ?_
  exact ⟨s1.heap.objs.size,[s1.heap.objs.size],_,_,H1,rfl,I1.kept (t':=s1.toks) fun b o e=>tqc _ e,zr0 (n:="str_iterator") rfl _ z t (fun A' h=>Walks.strWide h _ z t) (fun A i s Q E st h=>wpAny_pyIter_striter_wide st h) (fun A hh i s Q E st hi k=>wpAny_pyNext_wide_end hh st (by simp;omega) k),⟨_,tqe _ rfl,rfl,rfl⟩,fp,q⟩
 ·refine wpAny_pyIter_ascii ha ?_
  exact ⟨s1.heap.objs.size,[s1.heap.objs.size],_,_,H1,rfl,I1.kept (t':=s1.toks) fun b o e=>tqc _ e,zr0 (n:="str_ascii_iterator") rfl _ z t (fun A' h=>Walks.strAscii h _ z t) (fun A i s Q E st h=>wpAny_pyIter_striter_ascii st h) (fun A hh i s Q E st hi k=>wpAny_pyNext_ascii_end hh st (by simp;omega) k),⟨_,tqe _ rfl,rfl,rfl⟩,fp,q⟩
def zot (ga:GE):Env->Mem->Res Walk:=fun Z M=>(ga Z M).bind fun x M=>match x with
 |.str z=>.ok (fun _=>some (signs z)) M
 |_=>.bad
theorem zzo {μ0:Mu}{H0:Hp}(z:Str):zes fa X.K μ0 H0 (fun _=>some (signs z)) (Its z):=fun μ H M ds x hM e=>by
 cases e
 refine ⟨fun i d hd=>?_,fun i hi=>(show z.cps.size<=i by simpa [signs] using hi)⟩
 have hd:(signs z)[i]?=some d:=hd
 unfold signs at hd
 rw [List.getElem?_map] at hd
 cases e:z.cps.toList[i]? with
 |none=>rw [e] at hd;cases hd
 | some c =>
   rw [e] at hd
   have e':D.str ⟨#[c]⟩=d:=Option.some.inj hd
   subst e'
   have e2:z.cps[i]?=some c:=by simpa using e
   refine ⟨(Array.getElem?_eq_some_iff.mp e2).1,fun y H' ⟨e1,c',e3,e4⟩=>?_⟩
   rw [e2] at e3
   cases e3
   subst e1 e4
   exact ⟨.refl,hM,rfl⟩
theorem z45 (ha:DE fa X a ga):DI fa X tg a (zot ga):=fun pins s σ H R I ⟨μ,Z,M,hE,hM,h⟩=>by
 obtain ⟨x,M1,e,q⟩:=zbg h
 refine pi_str ha pins s σ H R I ⟨μ,Z,M,hE,hM,?_⟩
 rw [e]
 intro v H1 μ1 x1 m1 r1
 cases x with
 | str z =>
   obtain rfl:v=.str z:=r1
   exact ⟨z,rfl,q _ H1 μ1 x1 m1 (zzo z)⟩
 |_=>exact q.elim
end
end LD
namespace LD
open PySem PySem.Spec PySem.Calls PyProof.Rows PySem.W
section
variable {prog:Program}{w:World}{A:Around}{E:Value->Shared->Prop}{s:Shared}{K:Frag}{x C:Addr}{ox:Obj}{od:Option Obj}{name:Str}
def zky (K:Frag)(C:Addr):Bool:=findIn K (.ref C) "__getattribute__"==some (some (.builtin "BaseException.__getattribute__"))&&findIn K (.ref C) "__getattr__"==some none&&mroIn K C (.type "BaseException")==some true&&mroIn K C (.type "object")==some true &&
 findIn K (.ref C) "__class__"==some (some (.builtin "object.__class__"))&&specialIn K (.builtin "object.__class__") "__get__"==some (some (.builtin "getset_descriptor.__get__"))&&takesIn K (.builtin "object.__class__")==some true
def fndK (prog:Program)(w:World)(A:Around)(x C:Addr)(Q:Value->Shared->Prop)(E:Value->Shared->Prop)(s:Shared):Builtin.ObjectAttr.Found->Prop
 |.value v=>wpAny (model prog w) A (handedOut v) Q E s
 |.bind g a=>wpAny (model prog w) A.in1 (call g [a,.ref x,.ref C]) (fun v s'=>wpAny (model prog w) A (handedOut v) Q E s') (fun _ _=>False) s
 |.missing=>False
theorem zu7 {r:Builtin.ObjectAttr.Found}{tk:Tok}{fill expr:Bool}{Q:Value->Shared->Prop}(X:K.In s.heap)(I:InstAt s.heap x ox C od)(hg:zky K C=true)(hf:findObj K C od name=some r)
 (h:fndK prog w A x C Q E s r) :
 wpAny (model prog w) A (getAttrBy (.ref x) (.str name tk) fill expr) Q E s:=by
 unfold zky at hg
 simp only [Bool.and_eq_true,beq_iff_eq] at hg
 obtain ⟨⟨⟨⟨⟨⟨hga,hgn⟩,hmB⟩,hmO⟩,_⟩,_⟩,_⟩:=hg
 obtain ⟨hh,g,d,t,os⟩:=s
 have L0:=I.type (M:=model prog w)
 have L1:=looks_findIn (M:=model prog w) X hga
 have L2:=looks_findIn (M:=model prog w) X hgn
 have L3:=looks_find (M:=model prog w) X I hf
 have L4:=looks_mroIn (M:=model prog w) X hmB
 have hx2:(Value.builtin "BaseException.__getattribute__"==Value.builtin "object.__getattribute__")=false:=by decide +kernel
 have hk:builtinKind "BaseException.__getattribute__"=some .slot:=by decide +kernel
 have hsplit:splitId "BaseException.__getattribute__"=some ("BaseException","__getattribute__"):=by decide +kernel
 unfold getAttrBy
 refine tqo (tqa (L0.at (tqa (L1.at ?_))))
 show wpAny _ _ (if (true&&Value.builtin "BaseException.__getattribute__"==Value.builtin "object.__getattribute__")=true then _ else _) _ _ _
 rw [hx2,if_neg (by decide)]
 unfold getAttrByItsOwn
 refine tqa (show wpAny _ _ (typeLookup (.ref C) "__getattr__") _ _ _ from L2.at (tqa (wpAny_attempt (tqo ?_))))
 unfold callGetattribute
 rw [if_neg (by cases expr<;>decide)]
 unfold boundAndCalled
 refine tqa (wpAny_of_eq (PySem.F.excAttr_ValueError.ga.bind (.ref x)) ?_)
 refine wpAny_call (codeAny_call_builtin PySem.F.excAttr_ValueError.ga.plain F.entry_bexc_ga ?_)
 simp only [checkBuiltinCall,hk,hsplit]
 refine tqa (show wpAny _ _ (isInstance (.ref x) (.type "BaseException")) _ _ _ from tqa (L0.at (L4.at ?_)))
 have ha:=F.args_bexc_ga (.ref x) (.str name tk)
 repeat (any_goals (first|assumption|wp_step))
 refine wpAny_loadPart_at I.at_ (tqb ?_)
 rw [I.cls]
 refine tqa (L3.at ?_)
 cases r with
 |value v=>exact tqb h
 | bind g a =>
   show wpAny _ _ (holding [a] (call g [a,.ref x,.ref C]) >>= ret) _ _ _
   exact tqa (tqo (wpAny_mono h (fun v s' z=>tqb z) fun _ _ z=>z.elim))
 |missing=>exact h.elim
theorem zyv {Q:Option Value->Shared->Prop}(X:K.In s.heap)(I:InstAt s.heap x ox C od)(hg:zky K C=true)(h:Q (some (.ref C)) {s with toks:=s.toks+1}):wpAny (model prog w) A (getAttr? (.ref x) "__class__") Q E s:=by
 have hg':=hg
 unfold zky at hg'
 simp only [Bool.and_eq_true,beq_iff_eq] at hg'
 obtain ⟨⟨⟨⟨⟨⟨_,_⟩,_⟩,hm⟩,ha⟩,hn⟩,htk⟩:=hg'
 have hf:findObj K C od "__class__"=some (.bind (.builtin "getset_descriptor.__get__") (.builtin "object.__class__")):=by
  obtain ⟨cd,hc,_⟩:=Option.bind_eq_some_iff.mp hm
  unfold findObj
  rw [hc,Option.bind_some,ha,Option.bind_some]
  simp [hn,htk]
 unfold getAttr? getAttrBy?
 refine tqa (wpAny_mkText (tqa (wpAny_attempt (zu7 (s:={s with toks:=s.toks+1}) (r:=.bind (.builtin "getset_descriptor.__get__") (.builtin "object.__class__")) X I hg hf ?_))))
 exact wpAny_call (class_get (s:={s with toks:=s.toks+1}) (ox:=ox) (od:=od) X I hm (handed_on rfl (tqb h)))
theorem z4x {c:Value}{Q:Value->Shared->Prop}(X:K.In s.heap)(I:InstAt s.heap x ox C od)(hg:zky K C=true)(hty:∀(M:Model) h',K.In h'->Looks M h' (typeOf c) (.type "type"))(his:∀(M:Model) h',K.In h'->Looks M h' (isType c) true)
 (hne:(Value.ref C==c)=false) (hsub:∀(M:Model) h',K.In h'->Looks M h' (isSubtype (.ref C) c) false) (h:Q (.bool false) {s with toks:=s.toks+1}):wpAny (model prog w) A (call (.builtin "isinstance") [.ref x,c]) Q E s:=by
 refine call_isinstance_of ?_ (by intro q;cases q)
 have hisD:Looks (model prog w) s.heap (isType (.ref C)) true:=by
  have hg':=hg
  unfold zky at hg'
  simp only [Bool.and_eq_true,beq_iff_eq] at hg'
  obtain ⟨cd,hc,_⟩:=Option.bind_eq_some_iff.mp hg'.1.1.1.2
  unfold clsIn at hc
  split at hc
  ·rename_i c' d' cd' sl' ho
   intro A' Q' E' s' k q
   unfold isType loadHead
   exact tqa (wpAny_loadPart (k _ _ (X _ _ ho)) (tqb q))
  ·cases hc
 have hty:=hty (model prog w) s.heap X
 have his:=his (model prog w) s.heap X
 have hsub:=hsub (model prog w) s.heap X
 obtain ⟨h0,g,d,tt,os⟩:=s
 have L0:=I.type (M:=model prog w)
 have LI:Looks (model prog w) h0 (isInstance (.ref x) c) false:=L0.andThen hsub
 unfold Builtin.«isinstance.nested»
 refine tqa (L0.at ?_)
 rw [if_neg (fun q=>by rw [hne] at q;exact Bool.noConfusion q)]
 refine tqa (hty.at ?_)
 rw [if_pos (by decide)]
 k_delta "plainIsInstance"
 refine tqa (tqa (his.at ?_))
 simp only [Bool.not_true,Bool.false_eq_true,if_false]
 refine tqa (LI.at ?_)
 simp only [Bool.false_eq_true,if_false]
 refine tqa (zyv X I hg ?_)
 refine tqa (hisD.at ?_)
 simp only [Bool.not_true,Bool.false_eq_true,if_false]
 refine tqa (wpAny_rule ?_)
 refine hsub.at ?_
 exact tqb h
theorem z1w {D:Addr}{Q:Value->Shared->Prop}(X:K.In s.heap)(I:InstAt s.heap x ox C od)(hg:zky K C=true)(e:kin_not K C D=true)(h:Q (.bool false) {s with toks:=s.toks+1}):wpAny (model prog w) A (call (.builtin "isinstance") [.ref x,.ref D]) Q E s:=by
 unfold kin_not at e
 rw [Bool.and_eq_true,Bool.and_eq_true,Bool.and_eq_true] at e
 obtain ⟨⟨⟨e0,e1⟩,e2⟩,e3⟩:=e
 refine z4x X I hg (fun _ h' X'=>looks_typeIn X' (beq_iff_eq.mp e2)) (fun _ h' X'=>?_) ?_ (fun _ h' X'=>looks_subIn X' (beq_iff_eq.mp e3)) h
 ·unfold clsIn at e1
  split at e1
  ·rename_i c' d' cd' sl' ho
   intro A' Q' E' s' k q
   unfold isType loadHead
   exact tqa (wpAny_loadPart (k _ _ (X' _ _ ho)) (tqb q))
  ·cases e1
 ·exact Bool.eq_false_iff.mpr fun q=>of_decide_eq_true e0 (Value.ref.inj (beq_iff_eq.mp q))
theorem z4y {T:String}{Q:Value->Shared->Prop}(X:K.In s.heap)(I:InstAt s.heap x ox C od)(hty:typeOf (.type T)=pure (.type "type"))(hm:mroIn K C (.type T)=some true)(h:Q (.bool true) s):wpAny (model prog w) A (call (.builtin "isinstance") [.ref x,.type T]) Q E s:=by
 refine call_isinstance_of ?_ (by intro q;cases q)
 have L1:=looks_mroIn (M:=model prog w) X hm
 obtain ⟨h0,g,d,tt,os⟩:=s
 have L0:=I.type (M:=model prog w)
 have LI:Looks (model prog w) h0 (isInstance (.ref x) (.type T)) true:=L0.andThen L1
 unfold Builtin.«isinstance.nested»
 refine tqa (L0.at ?_)
 rw [if_neg (by intro q;cases beq_iff_eq.mp q)]
 refine tqa (wpAny_of_eq hty ?_)
 rw [if_pos (by decide)]
 k_delta "plainIsInstance"
 refine tqa (tqa (wpAny_of_eq (a:=true) rfl ?_))
 simp only [Bool.not_true,Bool.false_eq_true,if_false]
 refine tqa (LI.at ?_)
 simp only [if_true]
 exact tqb (tqb h)
end
end LD
namespace LD
open PySem PySem.Spec PyProof.Rows L2
def zga (f:Nat)(c:Call)(s:GA):GE:=fun Z M=>match s Z M with
 |.ok ds M=>c f ds M
 |_=>.bad
def xFin (k:D->Mem->Res Fl)(Z:Env):Res D->Res Fl
 |.ok d M=>k d M
 |.err x M=>.ok (.exc x Z) M
 |.bad=>.bad
def zly (a:GE):GS:=fun Z M=>xFin (fun _ M=>.ok (.next Z) M) Z (a Z M)
def zla (t:Tgt)(a:GE):GS:=fun Z M=>xFin (fun x M=>(ofO M (zde t x Z)).bind fun ρ1 M=>.ok (.next ρ1) M) Z (a Z M)
def zje (c:Nat)(s:GA):GS:=fun Z M=>match s Z M with
 |.ok ds M=>if ds.length<=sz then .ok (.exc (.exc c none) Z) M else .bad
 |_=>.bad
def zcz (o:Option Nat)(a:GE):GE:=fun Z M=>(a Z M).bind fun x M=>match x with
 |.exc c _=>.ok (.bl (match o with|some k=>k==c|none=>true)) M
 |_=>.bad
def xEnd (i:Nat):Fl->Mem->Res Fl
 |.next Z,M=>.ok (.next (Z.set i none)) M
 |.ret d,M=>.ok (.ret d) M
 |.exc _ _,_=>.bad
def xTry (i:Nat)(h:GS):Fl->Mem->Res Fl
 |.exc x Z,M=>(h (Z.set i (some x)) M).bind (xEnd i)
 |fl,M=>.ok fl M
def sTry (b:GS)(i:Nat)(h:GS):GS:=fun Z M=>(b Z M).bind (xTry i h)
def tEx (fa:Fa)(X:Cx)(g:GE):TE:=fun σ H Q=>∃μ Z M,zbu fa X.K μ H σ Z/\RelM fa X.K μ H M/\okX (g Z M) (zbs fa X.K μ H Q) (fun x M'=>XW fa X μ H x Z M')
abbrev DX (fa:Fa)(X:Cx)(e:Expr)(g:GE):Prop:=PE X e (tEx fa X g)
section
variable {fa:Fa}{X:Cx}{a b:Expr}{ga gb:GE}{ta:GT}{pos p:Pos}{es:List Expr}{gs:GA}{n:Nat}
theorem x_call (f:Nat){x:Str}{call:Call}(C:∀f,zgc fa X.prog X.w X.K X.mg X.base n f (call f))(hr:zcl (n+4) X.A)(hex:X.ex=[])(hg:Gl X x)(hm:∀ad,fa f=some ad->X.mg x=some (.ref ad))(hs:DA fa X (a::es) gs)
 (hdb:(x==("__debug__":Str))=false) (he:notStar a=true) (hpl:es.all notStar=true):DX fa X (.Call (.Name x p) (a::es) [] pos) (zga f call gs):=by
 intro pins s σ H Q I ⟨μ,Z,M,hE,hM,h⟩
 unfold zga at h
 cases eg:gs Z M with
 |err=>rw [eg] at h;exact h.elim
 |bad=>rw [eg] at h;exact h.elim
 | ok ds M1 =>
   rw [eg] at h
   have h:okX (call f ds M1) (zbs fa X.K μ H Q) (fun x M'=>XW fa X μ H x Z M'):=h
   rcases C f with hb|⟨ad,fd,ps,h1,h2,h3,h4,F⟩
   ·rw [hb] at h;exact h.elim
   ·have hl:ds.length=ps.length:=by
     by_cases hl:ds.length=ps.length
     ·exact hl
     ·rw [h4 ds M1 hl] at h;exact h.elim
    refine wpAny_Call_Name_kw (zhu I hg (hm ad h1) ?_ hdb)
    refine PySem.W.callWith_K (h₀:=X.base) I.ok.mod.kin h2 (thn (hs pos pins s σ H (fun vs H1=>∃μ1,Ext μ H μ1 H1/\RelM fa X.K μ1 H1 M1/\za7 fa X.K μ1 H1 ds vs) I ⟨μ,Z,M,hE,hM,by rw [eg];exact fun vs H1 μ1 x1 m1 r1=>⟨μ1,x1,m1,r1⟩⟩) fun us s1 ⟨vs,H1,I1,r,μ1,x1,m1,r1⟩=>⟨I1.kIn,?_⟩) (zck he) (zdl hpl)
    have hsp:spD fa X.K ps.length (call f) vs H1 Q fun Cv dx H'=>∃y M' μ' C' c p,Cv=.ref C'/\Ext μ1 H1 μ' H'/\RelM fa X.K μ' H' M'/\y=.exc c p/\fa (cid c)=some C'/\XNum H' c dx p/\XW fa X μ H y Z M':=by
     refine ⟨by rw [r1.length];exact hl,μ1,M1,ds,m1,r1,?_⟩
     cases ec:call f ds M1 with
     |ok d M2=>rw [ec] at h;exact zbs.ext h x1
     |err y M2=>rw [ec] at h;exact fun C dx c p H' μ' y' m ex hc hn=>⟨_,M2,μ',C,c,p,rfl,y',m,ex,hc,hn,h⟩
     |bad=>rw [ec] at h;exact h.elim
    have hl2:us.length=ps.length:=by rw [<- r.length,r1.length];exact hl
    have hb:=h3 s1 us I1.kIn (by simpa using hl2)
    rw [List.append_nil] at hb
    refine wpAny_call (codeAny_mono (F.run X.A X.stack s1 H1 ⟨us,[]⟩ us vs Q _ hr I1.env0 hb r hsp) fun r' s' hq=>?_)
    cases r' with
    | error e =>
      unfold CR at hq
      dsimp only at hq
      obtain ⟨a',C',dx,H',rfl,I',fl,y,M',μ',C2,c,p,ec,ye,m',ey,hc,hn,hw⟩:=zyp I1 hex hq
      cases ec
      exact hw pins σ H' μ' s' a' C' dx c p I' (x1.trans ye) ((hE.ext x1).ext ye) m' ey hc hn fl
    | ok fl =>
      cases fl with
      |ret u=>exact I1.after hq
      |next=>exact False.elim hq
      |brk=>exact False.elim hq
      |cont=>exact False.elim hq
theorem s_exX (ha:DX fa X a ga)(hs:swapsWith a none pos.line X.env=pure false):DS fa X (.Expr a pos) (zly ga):=
 zg7 (zpc ha hs) fun D' σ H ⟨μ,Z,M,hE,hM,h⟩=>⟨μ,Z,M,hE,hM,by
  unfold zly at h
  cases e:ga Z M with
  |ok d M1=>rw [e] at h;exact fun v H1 μ1 x1 m1 r1=>h σ H1 μ1 x1 (hE.ext x1) m1
  |err x M1=>rw [e] at h;exact h
  |bad=>rw [e] at h;exact h.elim⟩
theorem s_asgX {tg:Expr}{t:Tgt}(ha:DX fa X a ga)(hg:PG X tg (gT fa X.K t))(hs:swapsWithSole [tg] a pos.line X.env=pure false)(hw:swappedStores [tg] a X.env=pure none)(h1:(assignEach [tg] X.env).map (·.2)=[assign tg X.env]) :
 DS fa X (.Assign [tg] a pos) (zla t ga):=
 zg7 (zsp ha hg hs hw h1) fun D σ H ⟨μ,Z,M,hE,hM,h⟩=>⟨μ,Z,M,hE,hM,by
  unfold zla at h
  cases e:ga Z M with
  | ok d M1 =>
    rw [e] at h
    obtain ⟨ρ1,M2,e',q⟩:=zbg h
    cases eb:zde t d Z with
    |none=>rw [eb] at e';cases e'
    | some ρ2 =>
      rw [eb] at e'
      cases e'
      exact fun v H1 μ1 x1 m1 r1=>⟨μ1,Z,_,d,ρ1,hE.ext x1,m1,r1,eb,fun σ1 hE2=>q σ1 H1 μ1 x1 hE2 m1⟩
  |err x M1=>rw [e] at h;exact h
  |bad=>rw [e] at h;exact h.elim⟩
end
abbrev bmV:List Value:=[.type "ValueError",.type "Exception",.type "BaseException",.type "object"]
theorem z1y {K:PySem.W.Frag}{h:Heap}{C:Addr}{bmB:List Value}{newId:String}(X:K.In h)(q:PySem.W.excIn K C bmB newId=true) :
 ∃bm N nm q bs hdct sn sub ab col dd k0 k1 k2 k3 k5 mN,h.get? C=some (excClassObj nm q C N bs bm hdct sn sub ab col dd k0 k1 k2 k3 k5 newId)/\h.Ns N mN/\mN "__init__"=none/\OwnTail h bmB bm:=by
 unfold PySem.W.excIn at q
 split at q
 ·rename_i dd cd sl ho
  split at q
  ·rename_i C' bm k0 k1 k2 k3 n k5 hm hs
   simp only [Bool.and_eq_true,beq_iff_eq,Bool.not_eq_true'] at q
   obtain ⟨⟨⟨⟨⟨rfl,rfl⟩,hdel⟩,ht⟩,hok⟩,hni⟩:=q
   obtain ⟨nm,bs,mro,ns,qn,hd,sn,sub,ab,col,del⟩:=cd
   dsimp only at hm hdel hok hni
   subst hm hdel
   have hsl:sl=#[k0,k1,k2,k3,some (.builtin n),k5]:=by
    obtain ⟨l⟩:=sl
    simp only at hs
    rw [hs]
   subst hsl
   exact ⟨bm,ns,nm,qn,bs,hd,sn,sub,ab,col,dd,k0,k1,k2,k3,k5,_,X _ _ ho,.of_isNs (PySem.W.isNs_of_in X hok),PySem.W.nsMap_none_of_in X hok hni,PySem.W.tail_of_in X ht⟩
  ·cases q
 ·cases q
theorem zye {P:Program}{w:World}{H:Hp}{h:Heap}{a:Addr}{o:HO}(x:zdb P w H h a o):∃ob,h.get? a=some ob:=by
 cases o with
 |lst xs=>obtain ⟨_,_,_,_,e⟩:=x;exact ⟨_,e⟩
 |tup xs=>obtain ⟨_,_,_,ob,e,_⟩:=x;exact ⟨_,e⟩
 |dK kvs=>obtain ⟨_,_,_,_,o,_,_,e,_⟩:=x;exact ⟨_,e⟩
 |dT kvs=>obtain ⟨_,_,_,_,o,_,_,e,_⟩:=x;exact ⟨_,e⟩
 |set S n=>obtain ⟨o,_,_,_,e,_⟩:=x;exact ⟨_,e⟩
 |ins C dx fs=>obtain ⟨_,_,_,e,_⟩:=x;exact ⟨_,e⟩
 |own y=>exact x
 |xd fs=>obtain ⟨_,⟨_,_,_,e,_⟩,_⟩:=x;exact ⟨_,e⟩
 |rng lo hi=>obtain ⟨_,_,_,e⟩:=x;exact ⟨_,e⟩
 |frz ob u=>obtain ⟨e,_⟩:=x;exact ⟨_,e⟩
 |tbl ps=>exact ⟨_,x⟩
 |met f y=>exact ⟨_,x⟩
 |ext φ=>obtain ⟨_,e,_⟩:=x;exact e
theorem znq {X:Cx}{pins:List (Addr×Obj)}{σ:L2.St}{H:Hp}{s:Shared}(I:Inv X pins σ H s)(hex:X.ex=[]){e:Addr}(hn:s.heap.get? e=none):zme X e/\H e=none:=by
 refine ⟨⟨?_,fun p hp z=>?_⟩,?_⟩
 ·cases q:X.s₀.heap.get? e with
  |none=>rfl
  | some o =>
    obtain ⟨o',e'⟩:=I.base.there e o q (by rw [hex];simp)
    rw [hn] at e';cases e'
 ·have:=(I.pin p (List.mem_append_left _ hp)).1
  rw [z,hn] at this;cases this
 ·cases q:H e with
  |none=>rfl
  | some u =>
    obtain ⟨ob,z⟩:=zye (I.hok e u q)
    rw [hn] at z;cases z
section
variable {fa:Fa}{X:Cx}{a b:Expr}{ga gb:GE}{ta:GT}{pos p:Pos}{es:List Expr}{gs:GA}{n:Nat}
theorem z3l (c:Nat){x:Str}{np cpos:Pos}(hx:∃C,X.mg x=some (.ref C)/\fa (cid c)=some C/\PySem.W.excIn X.K C bmV "ValueError.__new__"=true)(hex:X.ex=[])(hg:Gl X x)(hc:X.calm=true)(hs:DA fa X (a::es) gs)
 (hdb:(x==("__debug__":Str))=false) (he:notStar a=true) (hpl:es.all notStar=true):DS fa X (.Raise (some (.Call (.Name x np) (a::es) [] cpos)) none pos) (zje c gs):=by
 intro pins s σ H D' I ⟨μ,Z,M,hE,hM,h⟩
 obtain ⟨C,hmC,hfC,hin⟩:=hx
 obtain ⟨bm,N,nm,q,bs,hdct,sn,sub,ab,col,dd,k0,k1,k2,k3,k5,mN,hC,hN,hni,T⟩:=z1y I.ok.mod.kin hin
 unfold zje at h
 cases eg:gs Z M with
 |err=>rw [eg] at h;exact h.elim
 |bad=>rw [eg] at h;exact h.elim
 | ok ds M1 =>
   rw [eg] at h
   dsimp only at h
   split at h
   ·next hz=>
    have h:XW fa X μ H (.exc c none) Z M1:=h
    refine wpAny_Raise_call_subT (nm:=nm) (q:=q) (N:=N) (bs:=bs) (hdct:=hdct) (sn:=sn) (sub:=sub) (ab:=ab) (col:=col) (dd:=dd) (k0:=k0) (k1:=k1) (k2:=k2) (k3:=k3) (k5:=k5) PySem.F.excBase_ValueError (T.hasType (by decide +kernel)) (I.ok.hd hc) (zdl (es:=a::es) (by simp [he,hpl])) hni (zhu I hg hmC ⟨rfl,?_⟩ hdb)
    have ar:=thn (hs cpos pins s σ H (fun vs H1=>∃μ1,Ext μ H μ1 H1/\RelM fa X.K μ1 H1 M1/\za7 fa X.K μ1 H1 ds vs) I ⟨μ,Z,M,hE,hM,by rw [eg];exact fun vs H1 μ1 x1 m1 r1=>⟨μ1,x1,m1,r1⟩⟩) (Q':=fun us s2=>([]:List (Str×Value))=[]/\us.length<=sizeLine/\s2.heap.get? C=some (excClassObj nm q C N bs bm hdct sn sub ab col dd k0 k1 k2 k3 k5 "ValueError.__new__")/\s2.heap.Ns N mN/\OwnTail s2.heap bmV bm/\∀h' e,Heap.MadeExcOf s2.heap h' e (.ref C) us->X.xe (.ref e) {s2 with heap:=h'}) fun us s1 ⟨vs,H1,I1,r,μ1,x1,m1,r1⟩=>by
     refine ⟨rfl,?_,I1.bk _ _ hC,hN.keeps I1.bk,T.keeps I1.bk,fun h' e hm=>?_⟩
     ·rw [<- r.length,r1.length,<- zdt];exact hz
     ·obtain ⟨t,ht,_,_⟩:=hm.there
      obtain ⟨n1,n2⟩:=znq I1 hex hm.new
      exact h pins σ H1 μ1 {s1 with heap:=h'} e C none c none (I1.kept (t':=s1.toks) hm.keeps) x1 (hE.ext x1) m1 rfl hfC rfl ⟨n1,n2,_,_,ht,rfl,rfl,rfl,.inl rfl⟩
    rw [zck he] at ar ⊢
    exact PySem.Calls.evalArgs_plain ar
   ·exact h.elim
end
end LD
namespace LD
open PySem PySem.Spec PyProof.Rows L2
structure XCs (fa:Fa) (K:PySem.W.Frag):Prop where
 g:∀c C,fa (cid c)=some C->zky K C=true/\PySem.W.mroIn K C (.type "ValueError")=some true/\PySem.W.isIn K (.ref C) C=true
 d:∀c C D,fa (cid c)=some C->fa 999=some D->PySem.W.isIn K (.ref C) D=true/\PySem.W.mroIn K C (.ref D)=some true/\PySem.W.mroIn K D (.type "BaseException")=some true/\PySem.W.typeIn K (.ref D)=some (.type "type")
 n:∀c C c' C',fa (cid c)=some C->fa (cid c')=some C'->c'≠c->PySem.W.kin_not K C C'=true
section
variable {fa:Fa}{X:Cx}{pins:List (Addr×Obj)}{σ:L2.St}{H:Hp}{s:Shared}{μ:Mu}
theorem zpt (I:Inv X pins σ H s){c:Nat}{p:Option Int}{v:V}(r:Rep fa X.K μ H (.exc c p) v):∃a C ox od,v=.ref a/\fa (cid c)=some C/\PySem.W.InstAt s.heap a ox C od:=by
 obtain ⟨a,C,dx,rfl,hf,hH,hn⟩:=r
 obtain ⟨⟨o,vs,h1,h2,h3,h4,h5⟩,_,_⟩:=I.hok a _ hH
 have hc:PySem.W.notCls o=true:=by unfold PySem.W.notCls;rw [h4]
 cases p with
 | none =>
   have hn:dx=none:=hn
   exact ⟨a,C,o,none,rfl,hf,h1,h2,hc,by rw [h3,hn];trivial⟩
 | some i =>
   obtain ⟨d,rfl,hd⟩:=hn
   obtain ⟨mA,⟨od,es,ep,e,_⟩,_⟩:=I.hok d _ hd
   exact ⟨a,C,o,some od,rfl,hf,h1,h2,hc,by rw [h3];exact e⟩
def zn5 (fa:Fa)(K:PySem.W.Frag)(o:Option Nat)(w:V)(xs:List V)(H:Hp)(Q:VK):Prop:=∃μ c p v,xs=[v,w]/\Rep fa K μ H (.exc c p) v/\Q (.bl (match o with|some k=>k==c|none=>true)) H
theorem z4t (hc:XCs fa X.K){k:Nat}{D:Addr}(hD:fa (cid k)=some D):zc0 X (.builtin "isinstance") (zn5 fa X.K (some k) (.ref D)):=by
 intro pins s σ H xs us Q I r h
 obtain ⟨μ,c,p,v,rfl,hv,q⟩:=h
 obtain ⟨u,w,rfl,r1,r2⟩:=vals2 r
 obtain rfl:w=Value.ref D:=r2
 obtain ⟨a,C,ox,od,rfl,hf,IA⟩:=zpt I hv
 obtain rfl:u=Value.ref a:=r1
 dsimp only at q
 by_cases hb:k=c
 ·subst hb
  rw [hD] at hf;cases hf
  rw [beq_self_eq_true] at q
  exact PySem.W.isi_call I.kIn (fun M=>IA.type) (hc.g k D hD).2.2 (by intro z;cases z) ⟨.bl true,H,I,rfl,q⟩
 ·rw [beq_eq_false_iff_ne.mpr hb] at q
  exact z1w I.kIn IA (hc.g c C hf).1 (hc.n c C k D hf hD hb) ⟨.bl false,H,I.tok _,rfl,q⟩
theorem z4v (hc:XCs fa X.K){D:Addr}(hD:fa 999=some D):zc0 X (.builtin "isinstance") (zn5 fa X.K none (.ref D)):=by
 intro pins s σ H xs us Q I r h
 obtain ⟨μ,c,p,v,rfl,hv,q⟩:=h
 obtain ⟨u,w,rfl,r1,r2⟩:=vals2 r
 obtain rfl:w=Value.ref D:=r2
 obtain ⟨a,C,ox,od,rfl,hf,IA⟩:=zpt I hv
 obtain rfl:u=Value.ref a:=r1
 exact PySem.W.isi_call I.kIn (fun M=>IA.type) (hc.d c C D hf hD).1 (by intro z;cases z) ⟨.bl true,H,I,rfl,q⟩
theorem z4u (hc:XCs fa X.K):zc0 X (.builtin "isinstance") (zn5 fa X.K none (.ty "ValueError")):=by
 intro pins s σ H xs us Q I r h
 obtain ⟨μ,c,p,v,rfl,hv,q⟩:=h
 obtain ⟨u,w,rfl,r1,r2⟩:=vals2 r
 obtain rfl:w=Value.type "ValueError":=r2
 obtain ⟨a,C,ox,od,rfl,hf,IA⟩:=zpt I hv
 obtain rfl:u=Value.ref a:=r1
 exact z4y I.kIn IA (by kernel_rfl) (hc.g c C hf).2.1 ⟨.bl true,H,I,rfl,q⟩
end
section
variable {fa:Fa}{X:Cx}{a:Expr}{ga:GE}{pos p1 p2:Pos}{x:Str}
theorem zpv {o:Option Nat}{w:V}{σ:L2.St}{H:Hp}{Q:VK}(h:tE fa X.K (zcz o ga) σ H Q):tE fa X.K ga σ H fun v H1=>zn5 fa X.K o w [v,w] H1 Q:=by
 obtain ⟨μ,Z,M,hE,hM,h⟩:=h
 exact t1 hE hM h fun x M1 v H1 μ1 x1 hE1 hM1 r1 h1=>by
  cases x with
  |exc c p=>exact ⟨μ1,c,p,v,rfl,r1,zbn (v:=.bl _) hM1 (zbs.ext h1 x1) rfl⟩
  |_=>exact h1.elim
theorem z3r (k:Nat)(hc:XCs fa X.K)(hx:∃D,X.mg x=some (.ref D)/\fa (cid k)=some D)(ha:DE fa X a ga)(hg:Gl X "isinstance")(hm:X.mg "isinstance"=none)(hgt:Gl X x)(hdb:(x==("__debug__":Str))=false)
 (he:starEach [a,.Name x p1] X.env=(false,eval a X.env)::starEach [.Name x p1] X.env):DE fa X (.Call (.Name "isinstance" p2) [a,.Name x p1] [] pos) (zcz (some k) ga):=by
 obtain ⟨D,h1,h2⟩:=hx
 exact zch (zhs (z4t (fa:=fa) hc h2) hg hm (by decide +kernel) (zcq ha (zcq (zkm hgt h1 (v:=.ref D) rfl hdb) zd9 (by rfl)) he) (by decide) (by decide) he (by rfl)) fun σ H Q h=>zpv h
theorem z3s (hc:XCs fa X.K)(hx:∃D,X.mg x=some (.ref D)/\fa 999=some D)(ha:DE fa X a ga)(hg:Gl X "isinstance")(hm:X.mg "isinstance"=none)(hgt:Gl X x)(hdb:(x==("__debug__":Str))=false)
 (he:starEach [a,.Name x p1] X.env=(false,eval a X.env)::starEach [.Name x p1] X.env):DE fa X (.Call (.Name "isinstance" p2) [a,.Name x p1] [] pos) (zcz none ga):=by
 obtain ⟨D,h1,h2⟩:=hx
 exact zch (zhs (z4v (fa:=fa) hc h2) hg hm (by decide +kernel) (zcq ha (zcq (zkm hgt h1 (v:=.ref D) rfl hdb) zd9 (by rfl)) he) (by decide) (by decide) he (by rfl)) fun σ H Q h=>zpv h
end
theorem zuf {prog:Program}{w:World}{A:Around}{E:Value->Shared->Prop}{s:Shared}{K:PySem.W.Frag}{x C D:Addr}{ox:Obj}{od:Option Obj}{Q:Bool->Shared->Prop}(X:K.In s.heap)(I:PySem.W.InstAt s.heap x ox C od)
 (hD:PySem.W.mroIn K D (.type "BaseException")=some true) (hT:PySem.W.typeIn K (.ref D)=some (.type "type")) (hs:PySem.W.mroIn K C (.ref D)=some true) (h:Q true s):wpAny (model prog w) A (excMatches (.ref x) (.ref D)) Q E s:=by
 obtain ⟨hh,g,d,t,os⟩:=s
 have LS:=PySem.W.looks_mroIn (M:=model prog w) X hs
 have LB:=PySem.W.looks_mroIn (M:=model prog w) X hD
 have LT:=PySem.W.looks_typeIn (M:=model prog w) X hT
 have f:=tc_notTuple
 obtain ⟨cd,hc,_⟩:=Option.bind_eq_some_iff.mp hD
 unfold PySem.W.clsIn at hc
 split at hc
 ·rename_i c' d' cd' sl' ho
  have hDo:=X _ _ ho
  have LI:PySem.W.Looks (model prog w) hh (isType (.ref D)) true:=fun A' Q' E' s' k q=>by
   unfold isType loadHead
   exact tqa (wpAny_loadPart (k _ _ hDo) (tqb q))
  unfold excMatches
  refine tqa (show wpAny _ _ (isInstance (.ref D) (.type "tuple")) _ _ _ from tqa (LT.at (wpAny_of_eq f ?_)))
  simp only [Bool.false_eq_true,if_false]
  repeat (first|with_reducible refine tqa (LI.at ?_)|with_reducible refine LB.at ?_|with_reducible refine LS.at ?_|with_reducible refine wpAny_loadPart_at I.at_ ?_|wp_step)
  rw [I.cls]
  refine LS.at ?_
  repeat (first|exact h|wp_step)
 ·cases hc
theorem zwn {M:Model}{A:Around}{E:Value->Shared->Prop}{New:Addr->Prop}{C a:Addr}{dx:Option Addr}{H:Hp}{s:Shared}{Q:Unit->Shared->Prop}(f:Fly New C dx a s.heap H)(h:Q () s):wpAny M A (setFlight (.ref a) none) Q E s:=by
 obtain ⟨_,_,o,vs,h1,_,_,h4,tr⟩:=f
 unfold setFlight
 rcases tr with t|⟨T,oT,ts,t1,_,_,_,t5,t6,t7⟩
 ·refine tqa (tqf h1 h4 t ?_)
  rw [if_neg (by decide)]
  exact tqb h
 ·refine tqa (tqf h1 h4 t1 ?_)
  rw [if_pos (show (Value.ref T != Value.none)=true from by simp)]
  refine wpAny_setField t5 t6 (Array.getElem?_eq_some_iff.mp t7).1 ?_
  have e:=Heap.update_setField_same s.heap T oT ts 3 .none t5 t6 t7
  show Q () {s with heap:=s.heap.update T (Obj.mapFields (·.setIfInBounds 3 .none))}
  rw [e];exact h
section
variable {X:Cx}{pins:List (Addr×Obj)}{σ:L2.St}{H:Hp}{s:Shared}
theorem zu6 {M:Model}{A:Around}{E:Value->Shared->Prop}{i:Nat}{x:Str}{ps:Pos}{Q:Unit->Shared->Prop}(I:Inv X pins σ H s)(hN:X.N.Nodup)(hi:X.N[i]?=some x)(hk:X.env.scope.names.lookup x=some .local)
 (h:∀s',Inv X pins (σ.set i none) H s'->Q () s'):wpAny M A (do bindName X.env x .none;unbindBehindTheSuite X.env x ps) Q E s:=by
 obtain ⟨m,hn,hl⟩:=id I.loc
 have hcls:(X.env.scope.kind==.class||(X.env.scope.kind==.module&&X.env.locals != X.env.globals))=false:=by rw [I.ok.kind];rfl
 refine wpAny_nameGoes_keeps hk hn hcls fun h' v hn' hs=>h _ ?_
 obtain ⟨oL,_,_,hoL,_⟩:=id hn
 have n0:∀b o,X.s₀.heap.get? b=some o->b≠X.env.locals:=fun b o e=>tqk (tqi (tqd e) I.ok.above)
 refine ⟨I.ok,I.os,I.bare,⟨fun b o e n hb hx=>?_,fun b o e n hb hx=>?_,I.base.free,fun b o e hx=>?_,I.base.tups,I.base.frzs,I.base.tbls⟩,⟨_,hn',fun j y v' e1 e2 e3=>?_⟩,fun y c e=>?_,I.free,I.freeC,fun p hp=>?_,fun b ob e=>?_,by simpa using I.len⟩
 ·exact (hs.2 b (n0 b o e)).trans (I.base.keep b o e n hb hx)
 ·obtain ⟨sl,e1⟩:=I.base.slot b o e n hb hx
  exact ⟨sl,(hs.2 b (n0 b o e)).trans e1⟩
 ·obtain ⟨o',e1⟩:=I.base.there b o e hx
  exact ⟨o',(hs.2 b (n0 b o e)).trans e1⟩
 ·by_cases hj:j=i
  ·subst hj
   by_cases hlt:j<σ.length
   ·rw [List.getElem?_set_self hlt] at e2;cases e2
   ·rw [List.getElem?_eq_none (by simpa using hlt)] at e2;cases e2
  ·rw [List.getElem?_set_ne (Ne.symm hj)] at e2
   obtain ⟨u',r',q⟩:=hl j y v' e1 e2 e3
   refine ⟨u',r',?_⟩
   rcases q with ⟨k,e⟩|⟨k,c,e,z⟩
   ·refine .inl ⟨k,?_⟩
    have:y≠x:=fun e=>hj (znm hN e1 (e ▸ hi))
    simp [this,e]
   ·exact .inr ⟨k,c,e,z.sameBut hs (I.cne y c e)⟩
 ·obtain ⟨w',z⟩:=I.cell y c e
  exact ⟨w',z.sameBut hs (I.cne y c e)⟩
 ·obtain ⟨e,n,ne,nf,d⟩:=I.pin p hp
  exact ⟨(hs.2 p.1 ne).trans e,n,ne,nf,d⟩
 ·refine (I.hok b ob e).stay (fun c w' hc q=>(hs.2 c ?_).trans q) (fun _ q=>q) fun _ _ q=>q
  rintro rfl
  rcases hc with hc|hc
  ·rw [<- hc,I.free] at e;cases e
  ·rw [I.free] at hc;cases hc
abbrev zos (X:Cx)(pn:List (Addr×Obj))(E:Value->Shared->Prop):Cx:={X with pn:=pn,xe:=E}
abbrev zro (X:Cx)(v:Value)(E:Value->Shared->Prop):Cx:={X with A:=X.A.mark (some v),calm:=false,xe:=E}
theorem zyn (I:Inv X pins σ H s)(E:Value->Shared->Prop):Inv (zos X (X.pn++pins) E) [] σ H s:=
 ⟨⟨I.ok.mod,I.ok.kind,I.ok.glob,I.ok.blt,I.ok.above,I.ok.inj,I.ok.has,I.ok.cab,I.ok.hd,I.ok.frames,I.ok.stk,I.ok.exf,I.ok.bs,I.ok.bsz,I.ok.noex,I.ok.exfs,I.ok.funs,I.ok.frf⟩,I.os,I.bare,I.base,I.loc,I.cell,I.free,I.freeC,fun p hp=>I.pin p (by simpa using hp),I.hok,I.len⟩
theorem zib {E:Value->Shared->Prop}{pins':List (Addr×Obj)}(I:Inv (zos X (X.pn++pins) E) pins' σ H s):Inv X pins σ H s:=
 ⟨⟨I.ok.mod,I.ok.kind,I.ok.glob,I.ok.blt,I.ok.above,I.ok.inj,I.ok.has,I.ok.cab,I.ok.hd,I.ok.frames,I.ok.stk,I.ok.exf,I.ok.bs,I.ok.bsz,I.ok.noex,I.ok.exfs,I.ok.funs,I.ok.frf⟩,I.os,I.bare,I.base,I.loc,I.cell,I.free,I.freeC,fun p hp=>I.pin p (List.mem_append_left _ hp),I.hok,I.len⟩
theorem zqr (I:Inv X pins σ H s)(v:Value)(E:Value->Shared->Prop):Inv (zro X v E) pins σ H s:=
 ⟨⟨I.ok.mod,I.ok.kind,I.ok.glob,I.ok.blt,I.ok.above,I.ok.inj,I.ok.has,I.ok.cab,(fun z=>nomatch z),I.ok.frames,I.ok.stk,I.ok.exf,I.ok.bs,I.ok.bsz,I.ok.noex,I.ok.exfs,I.ok.funs,I.ok.frf⟩,I.os,I.bare,I.base,I.loc,I.cell,I.free,I.freeC,I.pin,I.hok,I.len⟩
theorem zqs {v:Value}{E:Value->Shared->Prop}(hh:X.calm=true->X.A.handled=none)(I:Inv (zro X v E) pins σ H s):Inv X pins σ H s:=
 ⟨⟨I.ok.mod,I.ok.kind,I.ok.glob,I.ok.blt,I.ok.above,I.ok.inj,I.ok.has,I.ok.cab,hh,I.ok.frames,I.ok.stk,I.ok.exf,I.ok.bs,I.ok.bsz,I.ok.noex,I.ok.exfs,I.ok.funs,I.ok.frf⟩,I.os,I.bare,I.base,I.loc,I.cell,I.free,I.freeC,I.pin,I.hok,I.len⟩
end
section
variable {fa:Fa}{X:Cx}{pos np hp:Pos}{x nm:Str}{i:Nat}{body suite:List Stmt}{b0:Stmt}{gB gH:GS}
theorem zbu.unset {K:PySem.W.Frag}{μ:Mu}{H:Hp}{σ:L2.St}{Z:Env}(h:zbu fa K μ H σ Z)(i:Nat):zbu fa K μ H (σ.set i none) (Z.set i none):=by
 refine ⟨by simp [h.len],fun j d e=>?_⟩
 by_cases hj:j=i
 ·subst hj
  by_cases hl:j<Z.length
  ·rw [List.getElem?_set_self hl] at e;cases e
  ·rw [List.getElem?_eq_none (by simpa using hl)] at e;cases e
 ·rw [List.getElem?_set_ne (Ne.symm hj)] at e
  obtain ⟨v,h1,h2⟩:=h.at' j d e
  exact ⟨v,by rw [List.getElem?_set_ne (Ne.symm hj)];exact h1,h2⟩
theorem s_try (hc:XCs fa X.K)(hx:∃D,X.mg x=some (.ref D)/\fa 999=some D)(hex:X.ex=[])(hst:X.stack=X.env::X.outer)(hfr:X.env.frame=some X.env.locals)(hN:X.N.Nodup)(hi:X.N[i]?=some nm)(hl:X.env.scope.names.lookup nm=some .local)
 (hg:Gl X x) (hdb:(x==("__debug__":Str))=false) (hb:∀pn E,DSs fa (zos X pn E) body gB) (hh:∀v E,DSs fa (zro X v E) (b0::suite) gH) :
 DS fa X (.Try body [.ExceptHandler (some (.Name x np)) (some nm) (b0::suite) hp] [] [] pos) (sTry gB i gH):=by
 intro pins s σ H D' I ⟨μ,Z,M,hE,hM,h⟩
 obtain ⟨D,hmD,hfD⟩:=hx
 obtain ⟨fl,M1,e,q⟩:=zbg h
 refine wpAny_Try_except (wpAny_mono (hb (X.pn++pins) (fun e s₁=>wpAny (model X.prog X.w) X.A (noteFrame e X.env) (fun _ s₂=>wpAny (model X.prog X.w) X.A (setFlight e none) (fun _ s₃=>wpAny (model X.prog X.w) X.A (handleBy e X.env [.ExceptHandler (some (.Name x np)) (some nm) (b0::suite) hp]) (SP X pins D') X.xe s₃) X.xe s₂) X.xe s₁) [] s σ H D' (zyn I _) ⟨μ,Z,M,hE,hM,?_⟩) (fun f s1 z=>?_) fun _ _ z=>z)
 ·rw [e]
  cases fl with
  |next ρ'=>exact q
  |ret d=>exact q
  | exc y ρ1 =>
    intro pins' σ' H' μ' s' a C dx c p I1 ye hE1 hM1 ey hcC hn fl
    have I1:=I1.pins_of (pins':=[]) (fun p hp=>nomatch hp)
    have hall:∀p∈X.pn++pins,p.1≠a:=fl.1.2
    refine zu2 (P:=X.prog) (w:=X.w) (base:=X.base) (New:=zme (zos X (X.pn++pins) _)) (outer:=X.outer) (by rw [<- hst];exact I1.ok.frames) (by rw [<- hst];exact I1.stack) hfr fl (fun b z=>(znq I1 hex (Heap.get?_none_of_le z)).1) I1.hok (by rw [<- hst];exact I1.stkFree) fun h' ch hch u hok fl2=>?_
    have I2:Inv X pins σ' H' {s' with heap:=h'}:=z1q (zib I1) (fun b hb=>⟨(hch b hb).1.1,(hch b hb).2.2,(hch b hb).1.2⟩) (by rw [hst];exact u) hok
    have hcD:=hc.d c C D hcC hfD
    obtain ⟨nw,ha,o,vs,h1,h2,h3,h4,tr⟩:=id fl2
    have hxat:XAt C dx a h':=⟨o,vs,h1,h2,h3,h4,by
     rcases tr with t|⟨T,oT,ts,t,_⟩
     ·exact (Array.getElem?_eq_some_iff.mp t).1
     ·exact (Array.getElem?_eq_some_iff.mp t).1⟩
    have hnc:PySem.W.notCls o=true:=by unfold PySem.W.notCls;rw [h4]
    refine wpAny_handleBy_cons (codeAny_handlers_test (zhu (zqr I2 (.ref a) X.xe) hg hmD ?_ hdb)) (by intro z;cases z)
    have IA:∃od,PySem.W.InstAt h' a o C od:=by
     cases p with
     | none =>
       have hn:dx=none:=hn
       exact ⟨none,h1,h2,hnc,by rw [h3,hn];trivial⟩
     | some k =>
       obtain ⟨d,rfl,hd⟩:=hn
       obtain ⟨mA,⟨od,es,ep,ed,_⟩,_⟩:=hok d _ hd
       exact ⟨some od,h1,h2,hnc,by rw [h3];exact ed⟩
    obtain ⟨od,IA⟩:=IA
    refine zuf I2.kIn IA hcD.2.2.1 hcD.2.2.2 hcD.2.1 ?_
    refine codeAny_handlers_suite_as (zwn fl2 ?_)
    have I3:Inv X pins σ' (upd H' a (.ext (XAt C dx a))) {s' with heap:=h'}:=zqq I2 hex ha nw.1 ⟨o,vs,h1,h4⟩ hall ⟨hxat,⟨o,h1⟩,fun g1 g2 ⟨o,vs,k1,k2⟩ kk=>⟨o,vs,kk o k1,k2⟩⟩
    have xa:Ext μ' H' μ' (upd H' a (.ext (XAt C dx a))):=Ext.alloc hM1 ha
    have rp:Rep fa X.K μ' (upd H' a (.ext (XAt C dx a))) y (.ref a):=by
     rw [ey]
     refine ⟨a,C,dx,rfl,hcC,zcf,?_⟩
     cases p with
     |none=>exact hn
     |some k=>exact let ⟨d,z1,z2⟩:=hn;⟨d,z1,by rw [zaz (zbi z2 ha)];exact z2⟩
    refine zr8 I3 hN hi (.inl hl) (v:=.ref a) rfl (fun s4 I4=>?_) (.inr hl)
    have q:okE ((gH (ρ1.set i (some y)) M1).bind (xEnd i)) (FlP fa X μ H D'):=q
    obtain ⟨fl3,M2,e3,q3⟩:=zbg q
    refine wpAny_mono (hh (.ref a) _ pins s4 (σ'.set i (some (.ref a))) (upd H' a (.ext (XAt C dx a))) {nx:=fun σ2 H2=>D'.nx (σ2.set i none) H2,rt:=D'.rt} (zqr I4 (.ref a) _) ⟨μ',_,M1,(hE1.ext xa).set rp,hM1.alloc ha,?_⟩) (fun f s5 z=>?_) fun _ _ z=>z
    ·rw [e3]
     cases fl3 with
     |next ρ2=>exact fun σ2 H2 μ2 x2 hE2 hM2=>q3 (σ2.set i none) H2 μ2 ((ye.trans xa).trans x2) (hE2.unset i) hM2
     |ret d=>exact zbs.ext q3 (ye.trans xa)
     |exc=>exact q3.elim
    ·dsimp only
     cases f with
     | next =>
       obtain ⟨σ5,H5,I5,z⟩:=z
       exact zu6 (zqs I2.ok.hd I5) hN hi hl fun s6 I6=>⟨_,H5,I6,z⟩
     | ret u =>
       obtain ⟨v,σ5,H5,I5,r5,z⟩:=z
       exact zu6 (zqs I2.ok.hd I5) hN hi hl fun s6 I6=>⟨v,_,H5,I6,r5,z⟩
     |brk=>obtain ⟨_,_,_,z⟩:=z;exact z.elim
     |cont=>obtain ⟨_,_,_,z⟩:=z;exact z.elim
 ·cases f with
  |next=>obtain ⟨σ5,H5,I5,z⟩:=z;exact wpAny_execs_nil ⟨σ5,H5,zib I5,z⟩
  |ret u=>obtain ⟨v,σ5,H5,I5,r5,z⟩:=z;exact ⟨v,σ5,H5,zib I5,r5,z⟩
  |brk=>obtain ⟨σ5,H5,I5,z⟩:=z;exact ⟨σ5,H5,zib I5,z⟩
  |cont=>obtain ⟨σ5,H5,I5,z⟩:=z;exact ⟨σ5,H5,zib I5,z⟩
end
def xcsB (K:PySem.W.Frag)(cl:List (Nat×Addr))(D:Addr):Bool:=PySem.W.mroIn K D (.type "BaseException")==some true&&PySem.W.typeIn K (.ref D)==some (.type "type") &&
 cl.all fun q=>zky K q.2&&PySem.W.mroIn K q.2 (.type "ValueError")==some true&&PySem.W.isIn K (.ref q.2) q.2&&PySem.W.isIn K (.ref q.2) D&&PySem.W.mroIn K q.2 (.ref D)==some true&&cl.all fun r=>r.1==q.1||PySem.W.kin_not K q.2 r.2
def faX (l cl:List (Nat×Addr))(D:Addr):Fa:=fun i=>if i<999 then l.lookup i else if i=999 then some D else cl.lookup (i-1000)
theorem lookup_mem:∀{l:List (Nat×Addr)}{c:Nat}{C:Addr},l.lookup c=some C->(c,C)∈l
 |[],_,_,h=>by cases h
 | (a, b) :: r, c, C, h => by
   rw [List.lookup_cons] at h
   split at h
   ·next e=>cases h;rw [eq_of_beq e];exact List.mem_cons_self
   ·exact List.mem_cons_of_mem _ (lookup_mem h)
theorem zks {l cl:List (Nat×Addr)}{D:Addr}{c:Nat}{C:Addr}(h:faX l cl D (cid c)=some C):(c,C)∈cl:=by
 unfold faX cid at h
 rw [if_neg (by omega),if_neg (by omega),Nat.add_sub_cancel_left] at h
 exact lookup_mem h
theorem xcs_of {K:PySem.W.Frag}{l cl:List (Nat×Addr)}{D:Addr}(h:xcsB K cl D=true):XCs (faX l cl D) K:=by
 unfold xcsB at h
 simp only [Bool.and_eq_true,beq_iff_eq,List.all_eq_true,Bool.or_eq_true] at h
 obtain ⟨⟨h1,h2⟩,h3⟩:=h
 refine ⟨fun c C e=>?_,fun c C D' e e'=>?_,fun c C c' C' e e' n=>?_⟩
 ·obtain ⟨⟨⟨⟨⟨a1,a2⟩,a3⟩,a4⟩,a5⟩,a6⟩:=h3 _ (zks e)
  exact ⟨a1,a2,a3⟩
 ·obtain ⟨⟨⟨⟨⟨a1,a2⟩,a3⟩,a4⟩,a5⟩,a6⟩:=h3 _ (zks e)
  have e':some D=some D':=e'
  cases e'
  exact ⟨a4,a5,h1,h2⟩
 ·obtain ⟨⟨⟨⟨⟨a1,a2⟩,a3⟩,a4⟩,a5⟩,a6⟩:=h3 _ (zks e)
  exact (a6 _ (zks e')).elim (fun z=>absurd z n) id
end LD
namespace LD
open PySem PySem.Spec PyProof.Rows L2 PySem.SeqAt
def znz (M:Mem)(x:D):Option (List Bool):=(rdD M x).bind boolsOf
def zwm (a:GE):GE:=fun Z M=>(a Z M).bind fun x M=>match znz M x with
 |some bs=>.ok (.int (bs.count true)) M
 |none=>.bad
def zwl (a:GE):GE:=fun Z M=>(a Z M).bind fun x M=>match znz M x with
 |some bs=>if true∈bs then .ok (.int (bs.idxOf true)) M else .bad
 |none=>.bad
def isT:Value->Bool
 |.bool b=>b
 |_=>false
section
variable {fa:Fa}{X:Cx}
theorem eqT {A:Around}{s:Shared}{us:List Value}{bs:List Bool}(h:us=bs.map Value.bool):∀y,y∈us.toArray->EqAt A s y (.bool true) (isT y):=fun y hy=>by
 have hy:y∈us:=by simpa using hy
 rw [h] at hy
 obtain ⟨b,_,rfl⟩:=List.mem_map.mp hy
 have e:=EqAt.bool_bool (A:=A) (s:=s) b true
 have q:(b==true)=isT (.bool b):=by cases b<;>rfl
 rw [<- q];exact e
theorem cntT {bs:List Bool}:(bs.map Value.bool).countP isT=bs.count true:=by
 induction bs with
 |nil=>rfl
 |cons b r ih=>cases b<;>simp [List.countP_cons,isT,ih]
theorem zqx:∀{us:List Value}{bs:List Bool},PyProof.Rows.LSm.BoolsAre us bs->us=bs.map Value.bool:=by
 intro us bs h
 induction h with
 |nil=>rfl
 |cons _ _ ih=>simp [ih]
def rCnt (fa:Fa)(K:PySem.W.Frag)(x:V)(vs:List V)(H:Hp)(Q:VK):Prop:=∃μ ds bs p ws,x=.ref p/\vs=[.bl true]/\SqL K H p ws/\za7 fa K μ H ds ws/\boolsOf ds=some bs/\Q (.int (bs.count true)) H
def rIdxT (fa:Fa)(K:PySem.W.Frag)(x:V)(vs:List V)(H:Hp)(Q:VK):Prop:=∃μ ds bs p ws,x=.ref p/\vs=[.bl true]/\SqL K H p ws/\za7 fa K μ H ds ws/\boolsOf ds=some bs/\true∈bs/\Q (.int (bs.idxOf true)) H
theorem mt_cnt:MtR X "list.count" (rCnt fa X.K):=by
 intro pins s σ H x vs v us Q I rx rv h
 obtain ⟨μ,ds,bs,p,ws,rfl,rfl,hq,rl,eb,q⟩:=h
 cases rx
 obtain ⟨u,rfl,ru⟩:=vals1 rv
 obtain rfl:u=Value.bool true:=ru
 obtain ⟨its,rv,⟨o,n,e1,e2,e3,e4⟩,hz⟩:=I.list hq
 have hb:=zqx (zlz eb rl rv)
 obtain ⟨oc,od,oda,osl⟩:=o
 obtain rfl:oc=.type "list":=e2
 obtain rfl:oda=.seq its.toArray n:=e4
 refine call_meets PySem.F.slot_list_count ⟨_,e1,rfl⟩ PySem.F.entry_list_count (PySem.F.args_list_count_2 _ _) (PySem.SeqAt.list_countAt p its.toArray n od osl (.bool true) isT) ⟨e1,eqT hb,?_⟩
 have hcnt:its.toArray.toList.countP isT=bs.count true:=by rw [hb,List.toList_toArray];exact cntT
 exact ⟨.int (bs.count true),H,I.tok _,⟨s.toks,by rw [hcnt]⟩,q⟩
theorem mt_idx:MtR X "list.index" (rIdxT fa X.K):=by
 intro pins s σ H x vs v us Q I rx rv h
 obtain ⟨μ,ds,bs,p,ws,rfl,rfl,hq,rl,eb,hm,q⟩:=h
 cases rx
 obtain ⟨u,rfl,ru⟩:=vals1 rv
 obtain rfl:u=Value.bool true:=ru
 obtain ⟨its,rv,⟨o,n,e1,e2,e3,e4⟩,hz⟩:=I.list hq
 have hb:=zqx (zlz eb rl rv)
 obtain ⟨oc,od,oda,osl⟩:=o
 obtain rfl:oc=.type "list":=e2
 obtain rfl:oda=.seq its.toArray n:=e4
 have hl:bs.idxOf true<bs.length:=List.idxOf_lt_length_of_mem hm
 have hl2:its.length=bs.length:=by rw [hb];simp
 have hz2:its.length<=sizeLine:=by rw [<- rv.length];exact hz
 have hs:((bs.idxOf true:Nat):Int)<2^63-1:=by
  have:sizeLine<2^62:=by decide
  omega
 have at':∀m (hm:m<its.toArray.size),isT its.toArray[m]=bs[m]'(by simp at hm;omega):=fun m hm=>by subst hb;simp [isT]
 refine call_meets PySem.F.slot_list_index ⟨_,e1,rfl⟩ PySem.F.entry_list_index (PySem.F.args_list_index_2 _ _) (PySem.SeqAt.list_indexAt p its.toArray n od osl (.bool true) isT (bs.idxOf true) (by simp;omega) hs (by rw [at'];simp) fun m hm h=>?_) ⟨e1,eqT hb,?_⟩
 ·rw [at']
  have:=List.not_of_lt_findIdx (p:=(·==true)) (xs:=bs) (i:=m) h
  simpa using this
 ·exact ⟨.int (bs.idxOf true),H,I.tok _,⟨_,rfl⟩,q⟩
variable {a:Expr}{ga:GE}{apos cpos kp:Pos}{j:Nat}
theorem r_cntT (ha:DE fa X a ga)(hbase:attributeBase a "count" X.env (eval a X.env)=eval a X.env)(hline:(apos.endLine==cpos.line)=true):DE fa X (.Call (.Attribute a "count" apos) [.Constant (.bool true) j kp] [] cpos) (zwm ga):=
 zch (zvq PySem.F.plainAttrs_list PySem.F.slot_list_count PySem.F.type_list_count (mt_cnt (fa:=fa)) ha (zcq zvr zd9 (by rfl)) hbase (by rfl) hline (by rfl) (by rfl)) fun σ H Q ⟨μ,Z,M,hE,hM,h⟩=>t1 hE hM h fun x M1 v H1 μ1 x1 hE1 hM1 r1 h1=>by
  cases e3:znz M1 x with
  |none=>rw [e3] at h1;exact h1.elim
  |some bs=>
   rw [e3] at h1
   obtain ⟨ds,e,e2⟩:=Option.bind_eq_some_iff.mp e3
   obtain ⟨p,ws,rfl,hq,rl⟩:=zcd hM1 r1 e
   exact ⟨.inl ⟨rfl,ws,hq⟩,μ1,ds,bs,p,ws,rfl,rfl,hq,rl,e2,zbn (v:=.int _) hM1 (zbs.ext h1 x1) rfl⟩
theorem r_idxT (ha:DE fa X a ga)(hbase:attributeBase a "index" X.env (eval a X.env)=eval a X.env)(hline:(apos.endLine==cpos.line)=true):DE fa X (.Call (.Attribute a "index" apos) [.Constant (.bool true) j kp] [] cpos) (zwl ga):=
 zch (zvq PySem.F.plainAttrs_list PySem.F.slot_list_index PySem.F.type_list_index (mt_idx (fa:=fa)) ha (zcq zvr zd9 (by rfl)) hbase (by rfl) hline (by rfl) (by rfl)) fun σ H Q ⟨μ,Z,M,hE,hM,h⟩=>t1 hE hM h fun x M1 v H1 μ1 x1 hE1 hM1 r1 h1=>by
  cases e3:znz M1 x with
  |none=>rw [e3] at h1;exact h1.elim
  |some bs=>
   rw [e3] at h1
   obtain ⟨ds,e,e2⟩:=Option.bind_eq_some_iff.mp e3
   have h1:okE (if true∈bs then .ok (.int (bs.idxOf true)) M1 else .bad) (zbs fa X.K μ H Q):=h1
   split at h1
   ·next hm=>
    obtain ⟨p,ws,rfl,hq,rl⟩:=zcd hM1 r1 e
    exact ⟨.inl ⟨rfl,ws,hq⟩,μ1,ds,bs,p,ws,rfl,rfl,hq,rl,e2,hm,zbn (v:=.int _) hM1 (zbs.ext h1 x1) rfl⟩
   ·exact h1.elim
end
end LD
namespace LD
open PySem PySem.Spec PySem.Calls PyProof.Rows
section
variable {prog:Program}{w:World}{A:Around}{E:Value->Shared->Prop}{h:Heap}{g:Array GenState}{d:Drawn}{t:Nat}{os:OsState}
variable {nm q:Str}{C N:Addr}{bs bm:List Value}{hdct:Bool}{sn:List Str}{sub:List Value}{ab:Bool}{col:Option Bool}{dd:Option Addr}{k0 k1 k2 k3 k5:Option Value}
theorem z1x {e:Addr}{oe:Obj}{vs:Array Value}{u:Value}{Q:Value->Shared->Prop}(hC:h.get? C=some (excClassObj nm q C N bs bm hdct sn sub ab col dd k0 k1 k2 k3 k5 "ValueError.__new__"))(T:OwnTail h bmV bm)
 (he:h.get? e=some oe) (hcls:oe.cls=.ref C) (hd:oe.data=.fields vs) {t0:Addr} (h0:vs[0]?=some (.ref t0))
 (hq:∀h' tp,(∀b o,b≠e->h.get? b=some o->h'.get? b=some o)->h'.get? e=some (oe.mapFields (·.setIfInBounds 0 (.ref tp)))->Q .none ⟨h',g,d,t,os⟩) :
 wpAny (model prog w) A (call (.builtin "ValueError.__init__") [.ref e,u]) Q E ⟨h,g,d,t,os⟩:=by
 refine wpAny_call (codeAny_call_builtin PySem.F.excBase_ValueError.init.plain PySem.F.excBase_ValueError.initEntry (wpAny_check_init_subT PySem.F.excBase_ValueError T hC he hcls ?_))
 wp_walk
 have he2:(h.push {cls:=.type "tuple",data:=.seq #[u]}).get? e=some oe:=tqc _ he
 rw [hd]
 refine tqb ?_
 rw [h0]
 refine tqb ?_
 refine tqa (wpAny_setField he2 hd (Array.getElem?_eq_some_iff.mp h0).1 ?_)
 wp_walk
 refine hq _ h.objs.size (fun b o hb e'=>?_) ?_
 ·rw [tql _ _ (Ne.symm hb)];exact tqc _ e'
 ·exact tqm _ he2 (Obj.isFreed_of_fields (Obj.data_mapFields hd _))
end
def zlb:List Value->Bool
 |.ref _::r=>zlb r
 |l=>l==bmV
theorem zso (self:Value):∀{l:List Value},zlb l=true->refuseLoop self "__setattr__" l=pure ()
 |[],e=>absurd e (by decide)
 | a :: r, e => by
   cases a with
   |ref c=>rw [refuseLoop_ref];exact zso self e
   | _ =>
     have q:=eq_of_beq (show (_::r==bmV)=true from e)
     rw [q];exact PySem.F.store_ValueError.passes self
def zri (K:PySem.W.Frag)(C:Addr):Bool:=(PySem.W.clsIn K C).any (fun cd=>zlb cd.mro)&&PySem.W.mroIn K C (.type "object")==some true
theorem osa_x {prog:Program}{w:World}{A:Around}{R:Result->Shared->Prop}{s:Shared}{K:PySem.W.Frag}{x C:Addr}{ox:Obj}{od:Option Obj}{name:Str}{tk:Tok}{v:Value}(X:K.In s.heap)(J:PySem.W.InstAt s.heap x ox C od)(hp:zri K C=true)(ht:PySem.W.takerIn K C name=some none)
 (h:∀b,wpAny (model prog w) A.in1 (Builtin.ObjectAttr.storeInOwnDict (.ref x) (.ref C) (.str name tk) name v b) (fun fin s'=>match fin with|.done f=>R (.ok f) s'|.again c'=>c'.quiet=true/\codeAny (model prog w) A c' R s') (fun e s'=>R (.error e) s') s) :
 codeAny (model prog w) A (.call (.builtin "object.__setattr__") ⟨[.ref x,.str name tk,v],[]⟩) R s:=by
 unfold zri at hp
 rw [Bool.and_eq_true,beq_iff_eq] at hp
 obtain ⟨cd,hc,ho⟩:=PySem.W.any_some hp.1
 have G:=PySem.F.store_ValueError
 have ho:zlb cd.mro=true:=ho
 have e0:PySem.W.Looks (model prog w) s.heap (isInstance (.ref x) (.type "object")) true:=J.type.andThen (PySem.W.looks_mroIn X hp.2)
 obtain ⟨at',ha,hr⟩:=Option.bind_eq_some_iff.mp ht
 have e1:PySem.W.Looks (model prog w) s.heap (mroOf (.ref C)) cd.mro:=(PySem.W.looks_clsIn X hc).andThen .now
 have e2:PySem.W.Looks (model prog w) s.heap (Builtin.ObjectAttr.storeTaker? at') none:=by
  cases at' with
  |none=>exact .now
  | some a =>
    obtain ⟨b,hb,hn⟩:=Option.map_eq_some_iff.mp hr
    cases b with
    |true=>cases hn
    |false=>exact (PySem.W.looks_takesIn X hb).andThen .now
 refine codeAny_call_builtin PySem.F.store_object.slot.plain G.entry (@PySem.W.check_slot (model prog w) _ _ s "object.__setattr__" "object" "__setattr__" (.ref x) [.str name tk,v] [] _ G.kind G.split e0 (G.args (.ref x) (.str name tk) v) ?_)
 rw [PySem.W.osa_eq]
 refine tqa ?_
 rw [refuse_eq]
 refine tqa (J.type.here (tqa (e1.here ?_)))
 rw [zso _ ho]
 exact tqb (tqa (J.type.here (tqa ((PySem.W.looks_findIn X ha).here (tqa (e2.here (h _)))))))
theorem z4w {prog:Program}{w:World}{A:Around}{E:Value->Shared->Prop}{s:Shared}{K:PySem.W.Frag}{x C:Addr}{ox:Obj}{name:Str}{v:Value}{vs:Array Value}{Q:Unit->Shared->Prop}(X:K.In s.heap)(J:PySem.W.InstAt s.heap x ox C none)
 (hs:PySem.W.findIn K (.ref C) "__setattr__"=some (some (.builtin "object.__setattr__"))) (hp:zri K C=true) (ht:PySem.W.takerIn K C name=some none) (hh:PySem.W.hasDictIn K C=true) (hd:ox.data=.fields vs)
 (h:∀h' d,s.heap.objs.size<=d->h'.Ns1 d (fun y=>if y=name then some v else none)->h'.get? x=some {ox with dict:=some d}->(∀b o,b≠x->s.heap.get? b=some o->h'.get? b=some o)->Q () {s with heap:=h',toks:=s.toks+2}) :
 wpAny (model prog w) A (setAttr (.ref x) name v) Q E s:=by
 refine PySem.W.set_plain X J hs (osa_x (s:={s with toks:=s.toks+1}) X J hp ht fun b=>?_)
 obtain ⟨cd,hc,hd'⟩:=PySem.W.any_some hh
 have hx:=J.at_
 obtain ⟨oc,odi,oda,osl⟩:=ox
 obtain rfl:oc=.ref C:=J.cls
 obtain rfl:oda=.fields vs:=hd
 have hdi:odi=none:=by
  have:=J.dict
  cases odi with
  |none=>rfl
  |some d=>exact this.elim
 subst hdi
 refine tqa (tqb (tqa (tqa (wpAny_loadPart hx (tqa (PySem.W.Looks.here (s:={s with toks:=s.toks+1}) (PySem.W.looks_clsIn X hc) ?_))))))
 rw [hd']
 show wpAny _ _ (alloc {cls:=.type "dict",data:=.dict #[]} >>= fun d=>update x (fun o=>{o with dict:=some d}) >>= fun _=>(pure (some d):Sem (Option Addr))) _ _ _
 refine tqa (wpAny_alloc ?_)
 have hx2:(s.heap.push {cls:=.type "dict",data:=.dict #[]}).get? x=some ⟨.ref C,none,.fields vs,osl⟩:=tqc _ hx
 refine tqa (wpAny_update hx2 (tqb ?_))
 have hdx:s.heap.objs.size≠x:=Nat.ne_of_gt (tqd hx)
 have e1:(s.heap.push {cls:=.type "dict",data:=.dict #[]}).get? s.heap.objs.size=some {cls:=.type "dict",data:=.dict #[]}:=tqe s.heap rfl
 have e2:((s.heap.push {cls:=.type "dict",data:=.dict #[]}).update x (fun o=>{o with dict:=some s.heap.objs.size})).get? s.heap.objs.size=some {cls:=.type "dict",data:=.dict #[]}:=(tql _ _ (Ne.symm hdx)).trans e1
 have e3:((s.heap.push {cls:=.type "dict",data:=.dict #[]}).update x (fun o=>{o with dict:=some s.heap.objs.size})).Ns s.heap.objs.size (fun _=>none):=⟨_,#[],_,e2,rfl,(fun e he=>absurd he (by simp)),fun _=>rfl⟩
 have e4:=tqm (fun o=>{o with dict:=some s.heap.objs.size}) hx2 rfl
 refine tqa (tqb (tqa ?_))
 refine wpAny_nsSet1 (Heap.Ns1.of_empty e3) fun h' hn2 hs2=>?_
 obtain ⟨oD,esD,epD,hoD,hdD,hcD⟩:=hn2.count (PySem.Within.cons name v PySem.Within.nil)
 refine tqa (wpAny_lookBehind hoD (by rw [hdD];exact pastItsLine_dict (tqh hcD (by show 1<=sizeLine+1;omega))) ?_)
 refine tqb (h _ s.heap.objs.size (tqg _) hn2 ((hs2.2 _ (Ne.symm hdx)).trans e4) fun b o hb e=>?_)
 rw [hs2.2 b (tqk (tqd e)),tql _ _ (Ne.symm hb)]
 exact tqc _ e
end LD
namespace LD
open PySem PySem.Spec PyProof.Rows L2
def fit (z:Str)(i:Int)(y:Str):Prop:=i.natAbs.log2<1920/\(z++(toString i:Str)).length<=sizeLine/\(z++(toString i:Str)++y).length<=sizeLine
section
variable {X:Cx}{a:Expr}{ta:TE}{pos p1 p2 p3:Pos}{j j2:Nat}{z y:Str}
def tF3 (z y:Str)(ta:TE):TE:=fun σ H Q=>z.length<=sizeLine/\ta σ H fun v H1=>∃i,v=.int i/\fit z i y/\Q (.str (z++(toString i:Str)++y)) H1
theorem zq5 (z:Str):Str.empty++z=z:=by
 cases z with
 |mk c=>show Str.mk (#[]++c)=_;simp
theorem zwt (z:Str):z++Str.empty=z:=by
 cases z with
 |mk c=>show Str.mk (c++#[])=_;simp
theorem pe_f3 (ha:PE X a ta):PE X (.JoinedStr [.Constant (.str z) j p1,.FormattedValue a (-1) none p2,.Constant (.str y) j2 p3] pos) (tF3 z y ta):=by
 intro pins s σ H Q I ⟨hz,h⟩
 refine JoinedStr_many (joinParts_cons (Calls.Constant_str ?_))
 show (Str.empty++z).length<=sizeLine/\_
 rw [zq5]
 refine ⟨hz,joinParts_cons (FormattedValue_plain (thn (ha pins _ σ H _ (I.tok _) h) fun u s1 ⟨v,H1,I1,r1,i,ev,⟨f1,f2,f3⟩,q⟩=>?_))⟩
 subst ev
 obtain ⟨t,rfl⟩:=r1
 refine formatField_int_small f1 ⟨f2,joinParts_cons (Calls.Constant_str ⟨f3,joinParts_nil ?_ f3⟩)⟩
 exact ⟨.str _,H1,I1.tok _,⟨_,rfl⟩,q⟩
theorem pe_f2 (ha:PE X a ta):PE X (.JoinedStr [.Constant (.str z) j p1,.FormattedValue a (-1) none p2] pos) (tF3 z Str.empty ta):=by
 intro pins s σ H Q I ⟨hz,h⟩
 refine JoinedStr_many (joinParts_cons (Calls.Constant_str ?_))
 show (Str.empty++z).length<=sizeLine/\_
 rw [zq5]
 refine ⟨hz,joinParts_cons (FormattedValue_plain (thn (ha pins _ σ H _ (I.tok _) h) fun u s1 ⟨v,H1,I1,r1,i,ev,⟨f1,f2,f3⟩,q⟩=>?_))⟩
 subst ev
 obtain ⟨t,rfl⟩:=r1
 refine formatField_int_small f1 ⟨f2,joinParts_nil ?_ f2⟩
 have e:z++(toString i:Str)++Str.empty=z++(toString i:Str):=by
  exact zwt _
 rw [e] at q
 exact ⟨.str _,H1,I1.tok _,⟨_,rfl⟩,q⟩
end
def zer (C:Addr)(dx:Option Addr)(a:Addr)(h:Heap):Prop:=∃o vs t0,h.get? a=some o/\o.cls=.ref C/\o.dict=dx/\o.data=.fields vs/\vs[0]?=some (.ref t0)/\vs[1]?=some .none
def zjo (K:PySem.W.Frag)(C:Addr)(fI:Addr):Bool:=match K.lookup C with
 | some ⟨.type "type", _, .cls cd, sl⟩ => (match cd.mro, sl.toList with
   |.ref C'::bm,[_,_,_,_,some (.builtin n),_]=>C'==C&&n=="ValueError.__new__"&&!cd.hasDel&&PySem.W.tailIn K bmV bm&&PySem.W.nsOkIn K cd.ns&&PySem.W.nsIn K cd.ns "__init__"==some (some (.ref fI))
   |_,_=>false)
 |_=>false
theorem zv0 {K:PySem.W.Frag}{h:Heap}{N:Addr}{x:Str}{v:Value}{mg:Str->Option Value}(X:K.In h)(G:h.Ns N mg)(e:PySem.W.nsIn K N x=some (some v)):mg x=some v:=by
 obtain ⟨o,es,ep,ho,hd,_,hf⟩:=G
 unfold PySem.W.nsIn at e
 split at e
 ·rename_i c d es' n' sl q
  have:=X _ _ q
  rw [ho] at this
  cases this
  cases hd
  split at e
  ·rename_i en he
   cases e
   rw [<- hf]
   unfold nsFind findBy
   rw [<- Array.find?_toList,he]
   rfl
  ·split at e<;>cases e
 ·cases e
theorem zl9 {K:PySem.W.Frag}{h:Heap}{C fI:Addr}(X:K.In h)(q:zjo K C fI=true) :
 ∃bm N nm q bs hdct sn sub ab col dd k0 k1 k2 k3 k5 mN,h.get? C=some (excClassObj nm q C N bs bm hdct sn sub ab col dd k0 k1 k2 k3 k5 "ValueError.__new__")/\h.Ns N mN/\mN "__init__"=some (.ref fI)/\OwnTail h bmV bm:=by
 unfold zjo at q
 split at q
 ·rename_i dd cd sl ho
  split at q
  ·rename_i C' bm k0 k1 k2 k3 n k5 hm hs
   simp only [Bool.and_eq_true,beq_iff_eq,Bool.not_eq_true'] at q
   obtain ⟨⟨⟨⟨⟨rfl,rfl⟩,hdel⟩,ht⟩,hok⟩,hni⟩:=q
   obtain ⟨nm,bs,mro,ns,qn,hd,sn,sub,ab,col,del⟩:=cd
   dsimp only at hm hdel hok hni
   subst hm hdel
   have hsl:sl=#[k0,k1,k2,k3,some (.builtin "ValueError.__new__"),k5]:=by
    obtain ⟨l⟩:=sl
    simp only at hs
    rw [hs]
   subst hsl
   exact ⟨bm,ns,nm,qn,bs,hd,sn,sub,ab,col,dd,k0,k1,k2,k3,k5,_,X _ _ ho,.of_isNs (PySem.W.isNs_of_in X hok),zv0 X (.of_isNs (PySem.W.isNs_of_in X hok)) hni,PySem.W.tail_of_in X ht⟩
  ·cases q
 ·cases q
theorem zzq {H:Hp}{a:Addr}{o:HO}(h:H a=some o):upd H a o=H:=by
 funext b
 unfold upd
 split
 ·next e=>rw [e,h]
 ·rfl
section
variable {X:Cx}{a b:Expr}{ta tb:TE}{apos cpos p1 pos:Pos}{x:Str}{D:Addr}
def tIni (K:PySem.W.Frag)(ta tb:TE):TE:=fun σ H Q=>ta σ H fun v H1=>tb σ H1 fun u H2=>∃e C fI,v=.ref e/\H2 e=some (.ext (zer C none e))/\zjo K C fI=true/\Q .non H2
theorem zo4 {P:Program}{w:World}{H:Hp}{h:Heap}{C e:Addr}{dx:Option Addr}(x:zer C dx e h):zdb P w H h e (.ext (zer C dx e)):=by
 refine ⟨x,let ⟨o,_,_,e,_⟩:=x;⟨o,e⟩,fun g1 g2 ⟨o,vs,t0,k1,k2⟩ kk=>⟨o,vs,t0,kk o k1,k2⟩⟩
theorem pe_ini {pl:Sem Bool}(hD:X.mg x=some (.ref D))(hg:Gl X x)(h1:PySem.W.readsIn X.K D (.type "type")=true)(h2:PySem.W.findCls X.K (.ref D) (.type "type") "__init__"=some (.val (.builtin "ValueError.__init__")))
 (h3:PySem.W.specialIn X.K (.ref D) "__getattribute__"=some (some (.builtin "type.__getattribute__"))) (ha:PE X a ta) (hb:PE X b tb) (he:notStar a=true) (he2:notStar b=true) (hdb:(x==("__debug__":Str))=false)
 (ht:eval (.Call (.Attribute (.Name x p1) "__init__" apos) [a,b] [] cpos) X.env=(do
  let ov <- eval (.Name x p1) X.env
  standAt apos.atName
  let (f,first) <- holding [ov] (getMethod ov "__init__" pl)
  callWith cpos f first (backTo cpos (starEach [a,b] X.env)) (backToKw cpos (keywordEach [] X.env)))) :
 PE X (.Call (.Attribute (.Name x p1) "__init__" apos) [a,b] [] cpos) (tIni X.K ta tb):=by
 intro pins s σ H Q I h
 refine PySem.W.methodCall_KW (pl:=pl) (zhu I hg hD ?_ hdb) ht
 refine PySem.W.method_cls I.kIn h3 (PySem.W.cls_value I.kIn h1 h2 rfl ?_)
 refine Calls.callWith_builtin (zdl (es:=[a,b]) (by simp [he,he2])) ?_
 have ar:=thn ((zcq ha (zcq hb zd9 (zck he2)) (zck he)) cpos pins {s with toks:=s.toks+1} σ H (fun vs H2=>match vs with|[v,u]=>∃e C fI,v=.ref e/\H2 e=some (.ext (zer C none e))/\zjo X.K C fI=true/\Q .non H2|_=>False) (I.tok _) h) (Q':=fun us s2=>wpAny (model X.prog X.w) X.A (call (.builtin "ValueError.__init__") ([]++us) []) (EP X pins σ Q) X.xe s2) fun us s1 ⟨vs,H1,I1,r,hq⟩=>by
  match vs,r,hq with
  |[],_,hq=>exact hq.elim
  |[_],_,hq=>exact hq.elim
  |_::_::_::_,_,hq=>exact hq.elim
  | [v, u], r, ⟨e, C, fI, ev, hH, hx, q⟩ =>
    subst ev
    obtain ⟨w1,w2,rfl,r1,r2⟩:=vals2 r
    obtain rfl:w1=Value.ref e:=r1
    obtain ⟨⟨o,vs,t0,k1,k2,k3,k4,k5,k6⟩,_,_⟩:=I1.hok e _ hH
    obtain ⟨bm,N,nm,qq,bs,hdct,sn,sub,ab,col,dd,c0,c1,c2,c3,c5,mN,hC,hN,hni,T⟩:=zl9 I1.kIn hx
    obtain ⟨hp,gg,dr,tk,os⟩:=s1
    refine z1x hC T k1 k2 k4 k5 fun h' tp kk ke=>?_
    have nw:zer C none e h':=⟨_,_,tp,ke,by rw [Obj.cls_mapFields];exact k2,by rw [zma];exact k3,Obj.data_mapFields k4 _,by simp [(Array.getElem?_eq_some_iff.mp k5).1],by rw [Array.getElem?_setIfInBounds_ne (by decide)];exact k6⟩
    have I2:=I1.write (x:=e) (e:=e) (o:=.ext (zer C none e)) (h':=h') (t':=tk) (by rw [hH];exact True.intro) (.inl rfl) (fun b u hb z=>kk b u hb z) ⟨_,ke⟩ (zo4 nw)
    rw [zzq hH] at I2
    exact ⟨.non,H1,I2,rfl,q⟩
 rw [zck he] at ar ⊢
 exact PySem.Calls.evalArgs_plain ar
end
def setIn (K:PySem.W.Frag)(C:Addr)(fld:Str):Bool:=PySem.W.findIn K (.ref C) "__setattr__"==some (some (.builtin "object.__setattr__"))&&zri K C&&PySem.W.takerIn K C fld==some none&&PySem.W.hasDictIn K C
section
variable {X:Cx}{o value:Expr}{to tv:TE}{p' pos:Pos}{fld:Str}
def tSetx (K:PySem.W.Frag)(tv to:TE)(fld:Str):TS:=fun D σ H=>tv σ H fun y H1=>to σ H1 fun x H2=>∃e C i,x=.ref e/\y=.int i/\H2 e=some (.ext (zer C none e))/\setIn K C fld=true/\∀d,H2 d=none->d≠e->D.nx σ (upd (upd H2 d (.xd [(fld,.int i)])) e (.ext (zer C (some d) e)))
theorem z3y (ho:PE X o to)(hv:PE X value tv)(hs:swapsWith value (some (.Attribute o fld p')) pos.line X.env=pure false):PS X (.Assign [.Attribute o fld p'] value pos) (tSetx X.K tv to fld):=by
 intro pins s σ H D I h
 refine plainObj_wpAny_Assign_Attribute (thn (hv pins s σ H _ I h) fun u s1 ⟨y,H1,I1,ry,q⟩=>thn (ho pins s1 σ H1 _ I1 q) fun ov s2 ⟨x,H2,I2,rx,e,C,i,ex,ey,hH,hset,q2⟩=>?_) hs
 subst ex ey
 obtain rfl:ov=Value.ref e:=rx
 obtain ⟨t,rfl⟩:=ry
 simp only [setIn,Bool.and_eq_true,beq_iff_eq] at hset
 obtain ⟨⟨⟨g1,g2⟩,g3⟩,g4⟩:=hset
 obtain ⟨⟨ob,vs,t0,k1,k2,k3,k4,k5,k6⟩,_,_⟩:=I2.hok e _ hH
 have IA:PySem.W.InstAt s2.heap e ob C none:=⟨k1,k2,by unfold PySem.W.notCls;rw [k4],by rw [k3];trivial⟩
 refine z4w I2.kIn IA g1 g2 g3 g4 k4 fun h' d hd hns hx' kk=>?_
 have hd0:H2 d=none:=I2.hok.fresh hd
 have hde:d≠e:=fun z=>by rw [z,hH] at hd0;cases hd0
 have lt:∀b o,s2.heap.get? b=some o->b≠d:=fun b o q z=>absurd (tqd q) (by rw [z];exact Nat.not_lt.mpr hd)
 have ne:∀b,H2 b=none->b≠e:=fun b q z=>by rw [z,hH] at q;cases q
 have up:∀b,b≠d->b≠e->upd (upd H2 d (.xd [(fld,.int i)])) e (.ext (zer C (some d) e)) b=H2 b:=fun b z1 z2=>by rw [zaz z2,zaz z1]
 have nd:∀b u,H2 b=some u->b≠d:=fun b u q=>zbi q hd0
 refine ⟨σ,_,I2.un (h':=h') (t':=s2.toks+2) (H':=upd (upd H2 d (.xd [(fld,.int i)])) e (.ext (zer C (some d) e))) ⟨fun b o q n _ _=>kk b o (ne b n) q,fun b o q n _ _=>⟨o.slots,kk b o (ne b n) q⟩,fun b o q n _=>?_,fun b o q _=>?_,fun b xs q=>?_,fun b o u q=>?_,fun b ps q=>⟨#[],?_⟩⟩ fun b u q=>?_,q2 d hd0 hde⟩
 ·rw [up b (lt b o q) (ne b n)];exact n
 ·by_cases z:b=e
  ·exact ⟨_,by rw [z];exact hx'⟩
  ·exact ⟨o,kk b o z q⟩
 ·rw [up b (nd b _ q) (fun z=>by rw [z,hH] at q;cases q)];exact q
 ·rw [up b (nd b _ q) (fun z=>by rw [z,hH] at q;cases q)];exact q
 ·rw [up b (nd b _ q) (fun z=>by rw [z,hH] at q;cases q)];simpa using q
 ·by_cases z:b=e
  ·subst z
   rw [zcf] at q;cases q
   exact zo4 ⟨_,vs,t0,hx',k2,rfl,k4,k5,k6⟩
  ·by_cases z2:b=d
   ·subst z2
    rw [zaz hde,zcf] at q;cases q
    refine ⟨_,hns,fun f=>?_⟩
    by_cases hf:f=fld
    ·subst hf
     simp only [List.lookup_cons,beq_self_eq_true,if_true]
     exact ⟨t,rfl⟩
    ·rw [if_neg hf]
     have:([(fld,V.int i)]:List (Str×V)).lookup f=none:=by simp [List.lookup_cons,beq_eq_false_iff_ne.mpr hf]
     rw [this];trivial
   ·rw [up b z2 z] at q
    refine (I2.hok b u q).stay (fun c v hc w=>kk c v ?_ w) (fun c w=>?_) fun c xs w=>?_
    ·rcases hc with hc|hc
     ·rw [hc];exact z
     ·intro y;rw [y,hH] at hc;cases hc
    ·rw [up c (nd c _ w) (fun y=>by rw [y,hH] at w;cases w)];exact w
    ·rw [up c (nd c _ w) (fun y=>by rw [y,hH] at w;cases w)];exact w
end
end LD
namespace LD
open PySem PySem.Spec PyProof.Rows
section
variable {prog:Program}{w:World}{A:Around}{E:Value->Shared->Prop}{h:Heap}{g:Array GenState}{d:Drawn}{t:Nat}{os:OsState}
variable {nm q:Str}{C N:Addr}{bs bm:List Value}{hdct:Bool}{sn:List Str}{sub:List Value}{ab:Bool}{col:Option Bool}{dd:Option Addr}{k0 k1 k2 k3 k5:Option Value}
theorem zq6 {mN:Str->Option Value}{rest:List Value}{fI:Addr}{oI:Obj}{Q:Fin->Shared->Prop}
 (hC:h.get? C=some (excClassObj nm q C N bs bm hdct sn sub ab col dd k0 k1 k2 k3 k5 "ValueError.__new__")) (T:OwnTail h bmV bm) (hn:h.Ns N mN) (hi:mN "__init__"=some (.ref fI)) (hfI:h.get? fI=some oI) (hfc:oI.cls=.type "function")
 (hq:∀h' e,Heap.MadeExcOf h h' e (.ref C) rest->wpAny (model prog w) A (call (.ref fI) (.ref e::rest)) (fun r s'=>r=.none/\Q (.done (.ret (.ref e))) s') E ⟨h',g,d,t,os⟩) (hrest:rest.length<=sizeLine) :
 wpAny (model prog w) A (Builtin.«type.__call__» ⟨.ref C::rest,[]⟩) Q E ⟨h,g,d,t,os⟩:=by
 have F:=PySem.F.excBase_ValueError
 repeat (first|with_reducible refine wpAny_loadPart_at hC ?_|with_reducible refine wpAny_madeBy_exc hC ?_|wp_step)
 refine codeAny_call_builtin_code (Code.quiet_builtin _ F.quiet) (wpAny_check_new_subT F T hC ?_)
 refine codeAny_exc_new_subT F T hC ?_ hrest
 show wpAny _ _ _ _ _ _
 have kp:∀b o,h.get? b=some o->((h.push {cls:=.type "tuple",data:=.seq rest.toArray}).push {cls:=.ref C,data:=.fields #[.ref h.objs.size,.none,.none,.none,.bool false,.none]}).get? b=some o:=fun b o hb=>tqc _ (tqc _ hb)
 have hC₁:=kp _ _ hC
 have hfI₁:=kp _ _ hfI
 have hn₁:=hn.keeps kp
 have T₁:=T.keeps kp
 have hget:((h.push {cls:=.type "tuple",data:=.seq rest.toArray}).push {cls:=.ref C,data:=.fields #[.ref h.objs.size,.none,.none,.none,.bool false,.none]}).get? (h.objs.size+1)=some {cls:=.ref C,data:=.fields #[.ref h.objs.size,.none,.none,.none,.bool false,.none]}:=by heap_get
 have hcC:(Value.ref C::bm).contains (.ref C)=true:=by simp
 unfold isInstance
 repeat (first|with_reducible refine wpAny_loadPart_at hget ?_|(with_reducible refine wpAny_isSubtype_exc hC₁ ?_;rw [hcC])|wp_step)
 show wpAny _ _ (typeLookup (.ref C) _) _ _ _
 refine wpAny_typeLookup_tail hC₁ hn₁ T₁ F.mroIs F.init.lookup ?_
 rw [hi]
 refine tqo (tqa ?_)
 unfold bindSpecial
 refine tqa (wpAny_typeOf (T:="function") ⟨_,hfI₁,hfc⟩ ?_)
 rw [if_pos (by decide)]
 refine tqb (tqa (wpAny_mono (hq _ (h.objs.size+1) ⟨kp,Heap.get?_none_of_le (Nat.le_succ _),h.objs.size,hget,Heap.get?_none_of_le (tqg _),?_⟩) (fun r s' hr=>?_) fun _ _ x=>x))
 ·exact tqc _ (Heap.get?_push_at rfl rfl)
 ·obtain ⟨rfl,hQ⟩:=hr
  wp_walk
  exact hQ
theorem zy7 {mN:Str->Option Value}{rest:List Value}{fI:Addr}{oI:Obj}{Q:Value->Shared->Prop}
 (hC:h.get? C=some (excClassObj nm q C N bs bm hdct sn sub ab col dd k0 k1 k2 k3 k5 "ValueError.__new__")) (T:OwnTail h bmV bm) (hn:h.Ns N mN) (hi:mN "__init__"=some (.ref fI)) (hfI:h.get? fI=some oI) (hfc:oI.cls=.type "function")
 (hq:∀h' e,Heap.MadeExcOf h h' e (.ref C) rest->wpAny (model prog w) (A.under (.builtin "type.__call__" ⟨.ref C::rest,[]⟩)) (call (.ref fI) (.ref e::rest)) (fun r s'=>r=.none/\Q (.ref e) s') E ⟨h',g,d,t,os⟩) (hrest:rest.length<=sizeLine) :
 wpAny (model prog w) A (call (.ref C) rest) Q E ⟨h,g,d,t,os⟩:=by
 have f1:=tc_lookup
 have f2:=tc_bind (.ref C)
 have hT:(⟨h,g,d,t,os⟩:Shared).TypeIs (.ref C) "type":=⟨_,hC,rfl⟩
 refine wpAny_call (codeAny_of_tree ?_)
 show wpAny _ _ (callAny (.ref C) _) _ _ _
 repeat (any_goals (first|assumption|with_reducible refine wpAny_loadPart_at hC ?_|wp_step))
 refine ⟨rfl,?_⟩
 refine codeAny_call_builtin_at (Code.quiet_builtin _ (by decide +kernel)) entry_typeCall (wpAny_check_type_call_sub hC (zq6 hC T hn hi hfI hfc (fun h' e hm=>?_) hrest))
 exact hq h' e hm
end
end LD
namespace LD
open PySem PySem.Spec PyProof.Rows L2
def IniEv (x m:Str)(a b:Expr)(p1 apos cpos:Pos)(env:PySem.Env):Prop:=∃pl,eval (.Call (.Attribute (.Name x p1) m apos) [a,b] [] cpos) env=(do
 let ov <- eval (.Name x p1) env
 standAt apos.atName
 let (f,first) <- holding [ov] (getMethod ov m pl)
 callWith cpos f first (backTo cpos (starEach [a,b] env)) (backToKw cpos (keywordEach [] env)))
def spI (C:Addr)(fld:Str):Sp:=fun vs H Q _=>∃e i,vs=[.ref e,.int i]/\H e=some (.ext (zer C none e))/\i.natAbs<2^64/\∀d,H d=none->d≠e->Q .non (upd (upd H d (.xd [(fld,.int i)])) e (.ext (zer C (some d) e)))
theorem len_app (a b:Str):(a++b).length=a.length+b.length:=by
 show (Str.append a b).length=_
 unfold Str.append Str.length
 simp
theorem zyu {z y:Str}{i:Int}(hz:z.length<=1000)(hy:y.length<=1000)(hi:i.natAbs<2^64):fit z i y:=by
 have h1:i.natAbs.log2<1920:=by
  by_cases h0:i.natAbs=0
  ·rw [h0];decide
  ·exact tqi ((Nat.log2_lt h0).mpr hi) (by omega)
 have h2:((toString i:Str)).length<=1921:=PyProof.Rows.int_text_len_1921 h1
 have hs:sizeLine=16777216:=zdt.symm
 refine ⟨h1,?_,?_⟩
 ·rw [len_app];omega
 ·rw [len_app,len_app];omega
section
variable {P:Program}{w:World}{K:PySem.W.Frag}{mg:Str->Option Value}{base:Heap}{qual y fld z:Str}{st:Stmt}{f C D fI:Addr}{fd:FuncData}{p1 p2 p3 p4 p5 p6 p7 p8 p9 p10 p11 p12 p13:Pos}{j:Nat}
theorem ini_ok (F:Fun K "__init__" qual st f fd)(S:zf2 ["self",y] ["self",y] (za0 st))
 (hb:zdg st=[.Expr (.Call (.Attribute (.Name "DeedError" p1) "__init__" p2) [.Name "self" p3,.JoinedStr [.Constant (.str z) j p4,.FormattedValue (.Name y p5) (-1) none p6] p7] [] p8) p9,.Assign [.Attribute (.Name "self" p10) fld p11] (.Name y p12) p13])
 (hev:∀L cd,IniEv "DeedError" "__init__" (.Name "self" p3) (.JoinedStr [.Constant (.str z) j p4,.FormattedValue (.Name y p5) (-1) none p6] p7) p1 p2 p8 (envOfC qual (za0 st) L f cd))
 (hz:z.length<=1000) (hyd:(y==("__debug__":Str))=false) (hyc:(y==("__classdict__":Str))=false) (v0:(za0 st).names.lookup ("self":Str)=some .local) (v1:(za0 st).names.lookup y=some .local)
 (hg:∀L cd,(envOfC qual (za0 st) L f cd).kindOf "DeedError"=some .globalImplicit) (hD:mg "DeedError"=some (.ref D)) (h1:PySem.W.readsIn K D (.type "type")=true) (h2:PySem.W.findCls K (.ref D) (.type "type") "__init__"=some (.val (.builtin "ValueError.__init__")))
 (h3:PySem.W.specialIn K (.ref D) "__getattribute__"=some (some (.builtin "type.__getattribute__"))) (hC:zjo K C fI=true) (hset:setIn K C fld=true):zkf P w K mg base (CXE P w) 1 f fd ["self",y] (spI C fld):=by
 refine zpx F S (fun vs H Q E ⟨e,i,ev,_⟩=>by rw [ev];rfl) fun cdv A outer s H vs Q E hr ⟨e,i,ev,hH,hi,q⟩=>?_
 subst ev
 rw [hb]
 have V0:Vis (zfe (CXE P w) P w K mg base ["self",y] qual (za0 st) f cdv A outer s H E).env.scope "self":=.inl v0
 have V1:Vis (zfe (CXE P w) P w K mg base ["self",y] qual (za0 st) f cdv A outer s H E).env.scope y:=.inl v1
 have a0:∀p,PE (zfe (CXE P w) P w K mg base ["self",y] qual (za0 st) f cdv A outer s H E) (.Name "self" p) (tVar 0):=fun p=>zn8 (i:=0) rfl V0
 have a1:∀p,PE (zfe (CXE P w) P w K mg base ["self",y] qual (za0 st) f cdv A outer s H E) (.Name y p) (tVar 1):=fun p=>zn8 (i:=1) rfl V1 hyd hyc
 obtain ⟨pl,hev⟩:=hev s.heap.objs.size cdv
 refine ⟨_,znj (zpc (pe_ini (pl:=pl) hD (hg _ _) h1 h2 h3 (a0 p3) (pe_f2 (a1 p5)) rfl rfl rfl hev) rfl) (znj (z3y (a0 p10) (a1 p12) rfl) zuv),?_⟩
 refine ⟨.ref e,rfl,tqh hz (by rw [<- zdt];decide),.int i,rfl,i,rfl,zyu hz (by decide) hi,e,C,fI,rfl,hH,hC,?_⟩
 exact ⟨.int i,rfl,.ref e,rfl,e,C,i,rfl,rfl,hH,hset,fun d hd hde=>q d hd hde⟩
end
end LD
namespace LD
open PySem PySem.Spec PyProof.Rows L2
def zkw (fa:Fa)(P:Program)(w:World)(K:PySem.W.Frag)(mg:Str->Option Value)(base:Heap)(c:Nat)(x:Str):Prop:=
 ∃C fI fd y oI,mg x=some (.ref C)/\fa (cid c)=some C/\zjo K C fI=true/\PySem.W.keepIn K (.ref C)=true/\K.lookup fI=some oI/\oI.cls=.type "function"/\Binds K fd ["self",y] []/\zkf P w K mg base (CXE P w) 1 fI fd ["self",y] (spI C (zfc c))
section
variable {X:Cx}{pins:List (Addr×Obj)}{σ:L2.St}{H H0:Hp}{s:Shared}{fa:Fa}
theorem zue {a:Addr}{φ:Heap->Prop}(I:Inv X pins σ H s)(ha:H a=some (.ext φ))(hH:∀b,b≠a->H0 b=H b)(hz:H0 a=none):Inv X pins σ H0 s:=by
 have nn:∀b,H b=none->b≠a:=fun b q z=>by rw [z,ha] at q;cases q
 have no:∀b u,H b=some u->(∀φ,u≠.ext φ)->H0 b=some u:=fun b u q n=>by
  rw [hH b (fun z=>by rw [z,ha] at q;cases q;exact n _ rfl)];exact q
 refine ⟨I.ok,I.os,I.bare,⟨I.base.keep,I.base.slot,fun b o e n hx=>?_,I.base.there,fun b xs e=>?_,fun b o u e=>?_,fun b ps e=>?_⟩,I.loc,I.cell,?_,fun x c e=>?_,fun p hp'=>?_,fun b u e=>?_,I.len⟩
 ·have q:=I.base.free b o e n hx
  rw [hH b (nn b q)];exact q
 ·exact no _ _ (I.base.tups b xs e) (fun _ z=>nomatch z)
 ·exact no _ _ (I.base.frzs b o u e) (fun _ z=>nomatch z)
 ·obtain ⟨m,q⟩:=I.base.tbls b ps e
  exact ⟨m,no _ _ q (fun _ z=>nomatch z)⟩
 ·rw [hH _ (nn _ I.free)];exact I.free
 ·rw [hH _ (nn _ (I.freeC x c e))];exact I.freeC x c e
 ·obtain ⟨e,n,r⟩:=I.pin p hp'
  exact ⟨e,by rw [hH _ (nn _ n)];exact n,r⟩
 ·by_cases hb:b=a
  ·rw [hb,hz] at e;cases e
  ·rw [hH b hb] at e
   exact (I.hok b u e).stay (fun c v _ q=>q) (fun c q=>no _ _ q (fun _ z=>nomatch z)) fun c xs q=>no _ _ q (fun _ z=>nomatch z)
theorem mk_exc {c:Nat}{x:Str}{C:Addr}{i:Int}{t:Tok}{Q:Value->Shared->Prop}(J:zkw fa X.prog X.w X.K X.mg X.base c x)(hr:zcl 2 X.A)(hex:X.ex=[])(I:Inv X pins σ H s)(hC:X.mg x=some (.ref C))(hi:i.natAbs<2^64)
 (h:∀e d s',fa (cid c)=some C->zme X e->H e=none->H d=none->d≠e->Inv X pins σ (upd (upd H d (.xd [(zfc c,.int i)])) e (.ext (zer C (some d) e))) s'->Q (.ref e) s'):wpAny (model X.prog X.w) X.A (call (.ref C) [.int i t]) Q X.xe s:=by
 obtain ⟨C',fI,fd,y,oI,m1,hf,hin,hk,hfI,hfc,hb,F⟩:=J
 rw [hC] at m1
 cases m1
 obtain ⟨bm,N,nm,q,bs,hdct,sn,sub,ab,col,dd,k0,k1,k2,k3,k5,mN,hCo,hN,hni,T⟩:=zl9 I.kIn hin
 obtain ⟨hp,g,dr,tk,os⟩:=s
 refine zy7 hCo T hN hni (I.kIn _ _ hfI) hfc (fun h' e hm=>?_) (by rw [<- zdt];exact tqq rfl)
 obtain ⟨tp,ht,_,_⟩:=hm.there
 obtain ⟨n1,n2⟩:=znq I hex hm.new
 have I1:=I.kept (t':=tk) hm.keeps
 have I2:Inv X pins σ (upd H e (.ext (zer C none e))) ⟨h',g,dr,tk,os⟩:=zqq I1 hex n2 n1.1 ⟨_,_,ht,rfl⟩ (fun p hp z=>by
  have:=(I.pin p hp).1
  rw [z,hm.new] at this;cases this) (zo4 ⟨_,_,tp,ht,rfl,rfl,rfl,rfl,rfl⟩)
 have hb':=hb ⟨h',g,dr,tk,os⟩ [.ref e,.int i t] I2.kIn rfl
 rw [List.append_nil] at hb'
 refine wpAny_call (codeAny_mono (F.run _ X.stack ⟨h',g,dr,tk,os⟩ (upd H e (.ext (zer C none e))) ⟨[.ref e,.int i t],[]⟩ [.ref e,.int i t] [.ref e,.int i] (fun v H'=>v=.non/\∃d,H d=none/\d≠e/\H'=upd (upd H d (.xd [(zfc c,.int i)])) e (.ext (zer C (some d) e))) (fun _ _ _=>False) (hr.make C [.int i t] []) (I2.env0.make C [.int i t] []) hb' (.cons rfl (.cons ⟨t,rfl⟩ .nil)) ?_) fun r s' hq'=>?_)
 ·refine ⟨e,i,rfl,zcf,hi,fun d hd hde=>⟨rfl,d,by rw [zaz hde] at hd;exact hd,hde,?_⟩⟩
  funext b
  unfold upd
  split
  ·rfl
  ·split
   ·rfl
   ·rfl
 ·cases r with
  | error e' =>
    obtain ⟨_,_,_,_,_,_,_,_,_,_,z⟩:=hq'
    exact z.elim
  | ok fl =>
    cases fl with
    | ret u =>
      obtain ⟨v,H',I3,rv,ev,d,hd,hde,eH⟩:=I2.after hq'
      subst ev eH
      exact ⟨rv,h e d s' hf n1 n2 hd hde I3⟩
    |next=>exact False.elim hq'
    |brk=>exact False.elim hq'
    |cont=>exact False.elim hq'
end
def gMkI (c:Nat)(a:GE):GE:=fun Z M=>(a Z M).bind fun d M=>match d with
 |.int i=>if i.natAbs<2^64 then .ok (.exc c (some i)) M else .bad
 |_=>.bad
def zhq (c:Nat)(a:GE):GS:=fun Z M=>match a Z M with
 |.ok (.int i) M=>if i.natAbs<2^64 then .ok (.exc (.exc c (some i)) Z) M else .bad
 |_=>.bad
def zjn (f:Str)(a:GE):GE:=fun Z M=>(a Z M).bind fun d M=>match d with
 |.exc c (some i)=>if zfc c=f then .ok (.int i) M else .bad
 |_=>.bad
theorem zvo {M:Model}{A:Around}{E:Value->Shared->Prop}{env:PySem.Env}{nm q:Str}{C N:Addr}{bs bm:List Value}{hdct:Bool}{sn:List Str}{sub:List Value}{ab:Bool}{col:Option Bool}{dd:Option Addr}{k0 k1 k2 k3 k5:Option Value}{newId:String}
 {s:Shared}{x:Sem Value}{Q:Flow->Shared->Prop} (hbase:bm.contains (.type "BaseException")=true) (hh:A.handled=none)
 (h:wpAny M A x (fun v s₁=>∃e o vs,v=.ref e/\s₁.heap.get? C=some (excClassObj nm q C N bs bm hdct sn sub ab col dd k0 k1 k2 k3 k5 newId)/\s₁.heap.get? e=some o/\o.cls=.ref C/\o.data=.fields vs/\vs[1]?=some .none/\E (.ref e) s₁) E s) :
 wpAny M A (raiseStmt env (some x) none) Q E s:=by
 have hcB:(Value.ref C::bm).contains (.type "BaseException")=true:=by rw [List.contains_cons,hbase,Bool.or_true]
 unfold raiseStmt
 refine tqa (wpAny_mono h (fun v s₁ h₁=>?_) fun _ _ x=>x)
 obtain ⟨e,⟨cl,od,da,sl⟩,vs,rfl,hC,he,hc,hd,h1,hE⟩:=h₁
 obtain rfl:cl=.ref C:=hc
 obtain rfl:da=.fields vs:=hd
 obtain ⟨hp,g,d,tk,os⟩:=s₁
 repeat (first|with_reducible refine wpAny_loadPart_at he ?_|with_reducible refine wpAny_loadPart_at hC ?_|(with_reducible refine wpAny_isSubtype_exc hC ?_;rw [hcB])|(with_reducible refine tqf he rfl h1 ?_)|wp_step)
 exact wpAny_raiseNew_none hh hE
section
variable {fa:Fa}{X:Cx}{a b:Expr}{ga gb:GE}{ta:GT}{pos p np cpos:Pos}{es:List Expr}{gs:GA}{n:Nat}{x:Str}
theorem z1z (c:Nat){pins:List (Addr×Obj)}{σ:L2.St}{H:Hp}{s:Shared}{Q:Value->Shared->Prop}(J:zkw fa X.prog X.w X.K X.mg X.base c x)(hr:zcl 2 X.A)(hex:X.ex=[])(hg:Gl X x)(ha:DE fa X a ga)(hdb:(x==("__debug__":Str))=false)(he:notStar a=true)(I:Inv X pins σ H s)
 (h:∃μ Z M,zbu fa X.K μ H σ Z/\RelM fa X.K μ H M/\okE (ga Z M) fun d M'=>∃i,d=.int i/\i.natAbs<2^64/\∀H1 μ1 e d C s',Ext μ H μ1 H1->zbu fa X.K μ1 H1 σ Z->RelM fa X.K μ1 H1 M'->X.mg x=some (.ref C)->fa (cid c)=some C->zme X e->H1 e=none->H1 d=none->d≠e->Inv X pins σ (upd (upd H1 d (.xd [(zfc c,.int i)])) e (.ext (zer C (some d) e))) s'->Q (.ref e) s') :
 wpAny (model X.prog X.w) X.A (eval (.Call (.Name x np) [a] [] cpos) X.env) Q X.xe s:=by
 obtain ⟨μ,Z,M,hE,hM,h⟩:=h
 obtain ⟨C,fI,fd,y,oI,m1,hf,hin,hk,r⟩:=id J
 refine wpAny_Call_Name_kw (zhu I hg m1 ?_ hdb)
 refine PySem.W.callWith_K (h₀:=X.base) I.ok.mod.kin hk (thn (zcq ha zd9 (zck he) cpos pins s σ H (fun vs H1=>∃μ1 M1 i,Ext μ H μ1 H1/\RelM fa X.K μ1 H1 M1/\vs=[.int i]/\i.natAbs<2^64/\∀H1 μ1 e d C s',Ext μ H μ1 H1->zbu fa X.K μ1 H1 σ Z->RelM fa X.K μ1 H1 M1->X.mg x=some (.ref C)->fa (cid c)=some C->zme X e->H1 e=none->H1 d=none->d≠e->Inv X pins σ (upd (upd H1 d (.xd [(zfc c,.int i)])) e (.ext (zer C (some d) e))) s'->Q (.ref e) s') I ⟨μ,Z,M,hE,hM,zbo h fun d M' ⟨i,ed,hi,k⟩ v H1 μ1 x1 m1 r1=>by
  subst ed
  obtain rfl:v=.int i:=r1
  exact ⟨μ1,M',i,x1,m1,rfl,hi,k⟩⟩) fun us s1 ⟨vs,H1,I1,r,μ1,M1,i,x1,mm,ev,hi,k⟩=>⟨I1.kIn,?_⟩) (zck he) (zdl (es:=[]) rfl)
 subst ev
 cases r with
 | cons r1 r2 =>
   cases r2
   obtain ⟨t,rfl⟩:=r1
   exact mk_exc J hr hex I1 m1 hi fun e d s' hfa n1 n2 hd hde I3=>k H1 μ1 e d C s' x1 (hE.ext x1) mm m1 hfa n1 n2 hd hde I3
theorem zz9 (c:Nat)(J:zkw fa X.prog X.w X.K X.mg X.base c x)(hr:zcl 2 X.A)(hex:X.ex=[])(hg:Gl X x)(hc:X.calm=true)(ha:DE fa X a ga)(hdb:(x==("__debug__":Str))=false)(he:notStar a=true):DS fa X (.Raise (some (.Call (.Name x np) [a] [] cpos)) none pos) (zhq c ga):=by
 intro pins s σ H D' I ⟨μ,Z,M,hE,hM,h⟩
 obtain ⟨C,fI,fd,y,oI,m1,hf,hin,hk,r⟩:=id J
 obtain ⟨bm,N,nm,q,bs,hdct,sn,sub,ab,col,dd,k0,k1,k2,k3,k5,mN,hCo,hN,hni,T⟩:=zl9 I.ok.mod.kin hin
 rw [arm_exec_Raise]
 simp only [evalOpt,Option.map]
 refine tqa (wpAny_standAt (zvo (C:=C) (nm:=nm) (q:=q) (N:=N) (bs:=bs) (bm:=bm) (hdct:=hdct) (sn:=sn) (sub:=sub) (ab:=ab) (col:=col) (dd:=dd) (k0:=k0) (k1:=k1) (k2:=k2) (k3:=k3) (k5:=k5) (newId:="ValueError.__new__") (T.hasType (by decide +kernel)) (I.ok.hd hc) (tqa (wpAny_mono (z1z (Q:=fun v s₁=>∃e o vs,v=.ref e/\s₁.heap.get? C=some (excClassObj nm q C N bs bm hdct sn sub ab col dd k0 k1 k2 k3 k5 "ValueError.__new__")/\s₁.heap.get? e=some o/\o.cls=.ref C/\o.data=.fields vs/\vs[1]?=some .none/\X.xe (.ref e) s₁) c J hr hex hg ha hdb he I ?_) (fun v s₃ h₃=>tqa (wpAny_standAt (tqb h₃))) fun _ _ x=>x))))
 refine ⟨μ,Z,M,hE,hM,?_⟩
 unfold zhq at h
 cases eg:ga Z M with
 |err=>rw [eg] at h;exact h.elim
 |bad=>rw [eg] at h;exact h.elim
 | ok x0 M1 =>
   rw [eg] at h
   cases x0 with
   | int i =>
     dsimp only at h
     split at h
     ·next hi=>
      have h:XW fa X μ H (.exc c (some i)) Z M1:=h
      refine ⟨i,rfl,hi,fun H1 μ1 e d C' s' x1 hE1 hM1 hm hf nw he hd hde I3=>?_⟩
      rw [m1] at hm
      cases hm
      have ne:upd (upd H1 d (.xd [(zfc c,.int i)])) e (.ext (zer C (some d) e)) e=some (.ext (zer C (some d) e)):=zcf
      obtain ⟨⟨o,vs,t0,g1,g2,g3,g4,g5,g6⟩,_,_⟩:=I3.hok e _ ne
      have he':upd H1 d (.xd [(zfc c,.int i)]) e=none:=by rw [zaz (Ne.symm hde)];exact he
      have I4:Inv X pins σ (upd H1 d (.xd [(zfc c,.int i)])) s':=zue I3 ne (fun b hb=>(zaz hb).symm) he'
      have hMd:RelM fa X.K μ1 (upd H1 d (.xd [(zfc c,.int i)])) M1:=hM1.alloc hd
      have xd:=Ext.alloc (o:=.xd [(zfc c,.int i)]) hM1 hd
      exact ⟨e,o,vs,rfl,I3.bk _ _ hCo,g1,g2,g4,g6,h pins σ _ μ1 s' e C (some d) c (some i) I4 (x1.trans xd) (hE1.ext xd) hMd rfl hf ⟨d,rfl,zcf⟩ ⟨nw,he',o,vs,g1,g2,g3,g4,.inl g6⟩⟩
     ·exact h.elim
   |_=>exact h.elim
def XFl (fa:Fa)(K:PySem.W.Frag)(f:Str):Prop:=∀c C,fa (cid c)=some C->zfc c=f->PySem.W.hasDictIn K C=true/\PySem.W.findIn K (.ref C) f=some none
theorem z3t (f:Str)(hc:XCs fa X.K)(hf:XFl fa X.K f)(ha:DE fa X a ga)(hb:attributeBase a f X.env (eval a X.env)=eval a X.env):DE fa X (.Attribute a f pos) (zjn f ga):=by
 intro pins s σ H Q I ⟨μ,Z,M,hE,hM,h⟩
 obtain ⟨x0,M1,eg,h⟩:=zbg h
 refine z5j hb (thn (ha pins s σ H (fun v H1=>∃μ1,Ext μ H μ1 H1/\RelM fa X.K μ1 H1 M1/\Rep fa X.K μ1 H1 x0 v) I ⟨μ,Z,M,hE,hM,by rw [eg];exact fun v H1 μ1 x1 m1 r1=>⟨μ1,x1,m1,r1⟩⟩) fun u s1 ⟨v,H1,I1,rv,μ1,x1,m1,r1⟩=>?_)
 cases x0 with
 | exc c p =>
   cases p with
   |none=>exact h.elim
   | some i =>
     dsimp only at h
     split at h
     ·next ef=>
      obtain ⟨e,C,dx,rfl,hfa,hH,d,rfl,hd⟩:=r1
      obtain rfl:u=Value.ref e:=rv
      obtain ⟨⟨o,vs,h1,h2,h3,h4,h5⟩,_,_⟩:=I1.hok e _ hH
      obtain ⟨mA,hns,hl⟩:=I1.hok d _ hd
      obtain ⟨od,hod,look⟩:=zqo hns
      have IA:PySem.W.InstAt s1.heap e o C (some od):=⟨h1,h2,by unfold PySem.W.notCls;rw [h4],by rw [h3];exact hod⟩
      have hlf:=hl f
      rw [ef] at hlf
      simp only [List.lookup_cons,beq_self_eq_true] at hlf
      obtain ⟨u,hu,ru⟩:=RelO.some_of hlf
      obtain ⟨t,rfl⟩:=ru
      obtain ⟨f1,f2⟩:=hf c C hfa ef
      unfold getAttr
      refine tqa (wpAny_mkText (zu7 (s:={s1 with toks:=s1.toks+1}) (r:=.value (.int i t)) I1.kIn IA (hc.g c C hfa).1 (PySem.W.findObj_own f1 f2 rfl (by rw [look f,hu])) ?_))
      exact PySem.W.handed_on rfl ⟨.int i,H1,I1.tok _,⟨t,rfl⟩,h (.int i) H1 μ1 x1 m1 rfl⟩
     ·exact h.elim
 |_=>exact h.elim
end
end LD
namespace LD
open PySem PySem.Spec PyProof.Rows L2
theorem room2 {n:Nat}{A:Around}(h:zcl (n+4) A):zcl 2 A:=h.mono (by omega)
def inC (s:Stmt):Stmt:=match s with
 |.ClassDef _ _ _ (b::_) _ _ _ _ _ _ _=>b
 |_=>s
def gF3 (z y:Str)(a:GE):GE:=fun Z M=>(a Z M).bind fun d M=>match d with
 |.int i=>if z.length<=1000/\y.length<=1000/\i.natAbs<2^64 then .ok (.str (z++(toString i:Str)++y)) M else .bad
 |_=>.bad
theorem r_f3 {fa:Fa}{X:Cx}{a:Expr}{ga:GE}{pos p1 p2 p3:Pos}{j j2:Nat}{z y:Str}(ha:DE fa X a ga):DE fa X (.JoinedStr [.Constant (.str z) j p1,.FormattedValue a (-1) none p2,.Constant (.str y) j2 p3] pos) (gF3 z y ga):=
 zch (pe_f3 ha) fun σ H Q ⟨μ,Z,M,hE,hM,h⟩=>by
  obtain ⟨x0,M1,eg,h1⟩:=zbg h
  cases x0 with
  | int i =>
    have h1:okE (if z.length<=1000/\y.length<=1000/\i.natAbs<2^64 then .ok (.str (z++(toString i:Str)++y)) M1 else .bad) (zbs fa X.K μ H Q):=h1
    split at h1
    ·next hm=>
     refine ⟨tqh hm.1 (by rw [<- zdt];decide),μ,Z,M,hE,hM,?_⟩
     rw [eg]
     intro v H1 μ1 x1 m1 r1
     obtain rfl:v=.int i:=r1
     exact ⟨i,rfl,zyu hm.1 hm.2.1 hm.2.2,h1 (.str _) H1 μ1 x1 m1 rfl⟩
    ·exact h1.elim
  |_=>exact h1.elim
def iniB (K:PySem.W.Frag)(C D fI:Addr)(fld:Str):Bool:=zjo K C fI&&PySem.W.keepIn K (.ref C)&&PySem.W.readsIn K D (.type "type")&&(PySem.W.specialIn K (.ref D) "__getattribute__"==some (some (.builtin "type.__getattribute__")))&&setIn K C fld&&PySem.W.keepIn K (.ref fI)
theorem z1r {fa:Fa}{w:World}{K:PySem.W.Frag}{mg:Str->Option Value}{h:Heap}{c:Nat}{x qual y z pm:Str}{st:Stmt}{C D fI cd:Addr}{t:Tok}{p1 p2 p3 p4 p5 p6 p7 p8 p9 p10 p11 p12 p13:Pos}{j:Nat}(X:K.In h)(G:h.Ns mainGlobals mg)
 (a:PySem.W.nsIn K mainGlobals x=some (some (.ref C))) (aD:PySem.W.nsIn K mainGlobals "DeedError"=some (some (.ref D))) (hf:fa (cid c)=some C) (b:iniB K C D fI (zfc c)=true) (h2:PySem.W.findCls K (.ref D) (.type "type") "__init__"=some (.val (.builtin "ValueError.__init__")))
 (l:K.lookup fI=some ⟨.type "function",none,.func (PySem.W.fnOf "__init__" qual (zfb st) (zdg st) (za0 st) .none .none .none (.str pm t) none (.ref cd) .none),#[]⟩) (e:PySem.W.codeIn K (.ref cd) qual=true) (S:zf2 ["self",y] ["self",y] (za0 st))
 (hb:zdg st=[.Expr (.Call (.Attribute (.Name "DeedError" p1) "__init__" p2) [.Name "self" p3,.JoinedStr [.Constant (.str z) j p4,.FormattedValue (.Name y p5) (-1) none p6] p7] [] p8) p9,.Assign [.Attribute (.Name "self" p10) (zfc c) p11] (.Name y p12) p13])
 (hev:∀L cd,IniEv "DeedError" "__init__" (.Name "self" p3) (.JoinedStr [.Constant (.str z) j p4,.FormattedValue (.Name y p5) (-1) none p6] p7) p1 p2 p8 (envOfC qual (za0 st) L fI cd))
 (hz:z.length<=1000) (hyd:(y==("__debug__":Str))=false) (hyc:(y==("__classdict__":Str))=false) (v0:(za0 st).names.lookup ("self":Str)=some .local) (v1:(za0 st).names.lookup y=some .local)
 (hg:∀L cd,(envOfC qual (za0 st) L fI cd).kindOf "DeedError"=some .globalImplicit)
 (hbd:∀(kV doc pm:Value) (an:Option Addr) (cdv ct u1 u2:Value),bindArgs (PySem.W.fnOf "__init__" qual (zfb st) (zdg st) (za0 st) .none kV doc pm an cdv ct) ⟨[u1,u2],[]⟩=pure ((["self",y]:List Str).zip [u1,u2])) (P:Program) (base:Heap):zkw fa P w K mg base c x:=by
 simp only [iniB,Bool.and_eq_true,beq_iff_eq] at b
 obtain ⟨⟨⟨⟨⟨b1,b2⟩,b3⟩,b4⟩,b5⟩,b6⟩:=b
 have F:=zyt l e b6
 exact ⟨C,fI,_,y,_,PySem.W.mg_of X G a,hf,b1,b2,l,rfl,F.binds fun kV doc pm an cdv ct us hl=>us2 (p:=fun us=>bindArgs (PySem.W.fnOf "__init__" qual (zfb st) (zdg st) (za0 st) .none kV doc pm an cdv ct) ⟨us,[]⟩=pure ((["self",y]:List Str).zip us)) (hbd kV doc pm an cdv ct) us hl,
  ini_ok F S hb hev hz hyd hyc v0 v1 hg (PySem.W.mg_of X G aD) b3 h2 b4 b1 b5⟩
def xflB (K:PySem.W.Frag)(cl:List (Nat×Addr))(f:Str):Bool:=cl.all fun q=>!(zfc q.1==f)||(PySem.W.hasDictIn K q.2&&PySem.W.findIn K (.ref q.2) f==some none)
theorem zw4 {K:PySem.W.Frag}{l cl:List (Nat×Addr)}{D:Addr}{f:Str}(h:xflB K cl f=true):XFl (faX l cl D) K f:=fun c C e ef=>by
 unfold xflB at h
 have:=(List.all_eq_true.mp h) _ (zks e)
 simp only [ef,beq_self_eq_true,Bool.not_true,Bool.false_or,Bool.and_eq_true,beq_iff_eq] at this
 exact this
end LD
namespace LD
open PySem PySem.Spec PyProof.Rows L2
mutual
theorem zul:∀d:D,(toPy d).hasDict=false
 |.non=>rfl
 |.bl _=>rfl
 |.int _=>rfl
 |.str _=>rfl
 |.tup ds=>by show PyData.hasDict (.tuple (zb5 ds))=false;rw [PyData.hasDict];exact znc ds
 |.lst ds=>by show PyData.hasDict (.list (zb5 ds))=false;rw [PyData.hasDict];exact znc ds
 |.frz _=>rfl
 |.cell _=>rfl
 |.fn _=>rfl
 |.exc _ _=>rfl
theorem znc:∀ds:List D,PyData.hasDictAll (zb5 ds)=false
 |[]=>rfl
 |d::r=>by show PyData.hasDictAll (toPy d::zb5 r)=false;rw [PyData.hasDictAll,zul d,znc r];rfl
end
def zg4 (M:Mem)(x:D):Str:=(toPy (zcw 64 M x)).shown
def zmi (M:Mem)(x:D):Bool:=zas 64 (zcw 64 M x)&&((toPy (zcw 64 M x)).showable&&decide ((zg4 M x).length<=sizeLine))
def reprD:List D->Mem->Res D
 |[x],M=>if zmi M x=true then .ok (.str (zg4 M x)) M else .bad
 |_,_=>.bad
def zis (s:GA):GE:=fun Z M=>(s Z M).bind fun ds M=>reprD ds M
def rRepr (fa:Fa)(K:PySem.W.Frag):List V->Hp->VK->Prop:=fun vs H Q=>∃μ M ds,RelM fa K μ H M/\za7 fa K μ H ds vs/\okE (reprD ds M) (zbs fa K μ H Q)
section
variable {fa:Fa}{X:Cx}{a:Expr}{es:List Expr}{gs:GA}{p pos:Pos}{n:Nat}
theorem f_repr (hr:zcl (n+4) X.A):zc0 X (.builtin "repr") (rRepr fa X.K):=by
 intro pins s σ H xs us Q I r h
 obtain ⟨μ,M,ds,hM,rl,h⟩:=h
 match ds,rl,h with
 |[],_,h=>exact h.elim
 |_::_::_,_,h=>exact h.elim
 | [d], rl, h =>
   obtain ⟨v,rfl,hv⟩:=zmk rl
   obtain ⟨u,rfl,ru⟩:=vals1 r
   have h:okE (if zmi M d=true then .ok (.str (zg4 M d)) M else .bad) (zbs fa X.K μ H Q):=h
   split at h
   ·next hs=>
    unfold zmi at hs
    rw [Bool.and_eq_true,Bool.and_eq_true] at hs
    obtain ⟨hp,hw,hl⟩:=hs
    have hl:=of_decide_eq_true hl
    obtain ⟨as,R⟩:=zhx I hM 64 64 d v u hp hv ru
    have dep:=(zmg 64 _ hp).2
    have un:=hr.un
    have fin:∀(h':Heap) (t:Tok) (tk:Nat),(∀(b:Addr) (o:Obj),s.heap.get? b=some o->h'.get? b=some o)->EP X pins σ Q (.str (zg4 M d) t) {s with heap:=h',toks:=tk}:=fun h' t tk k=>⟨.str (zg4 M d),H,I.kept k,⟨t,rfl⟩,zbn (v:=.str _) hM h rfl⟩
    unfold zg4 at fin hl
    have nd:=zul (zcw 64 M d)
    generalize toPy (zcw 64 M d)=py at R hw dep hl fin nd
    cases R with
    |none=>exact P.repr_of_none (fin _ _ _ fun _ _ e=>e)
    |bool b=>exact P.repr_of_bool (by rw [PyData.shown] at fin;exact fin _ _ _ fun _ _ e=>e)
    |int i t=>exact P.repr_of_int (by rw [PyData.showable] at hw;exact of_decide_eq_true hw) (fin _ _ _ fun _ _ e=>e)
    |str x t=>exact P.repr_of_str (fin _ _ _ fun _ _ e=>e) hl
    |list e1 e2 e3 e4=>exact repr_of_reads' (.list e1 e2 e3 e4) hw (fun z=>by rw [nd] at z;cases z) hr.gd (by omega) (fun _ _ e=>e) (fun h' t tk k=>fin h' t tk k) hl
    |tuple e1 e2 e3 e4=>exact repr_of_reads' (.tuple e1 e2 e3 e4) hw (fun z=>by rw [nd] at z;cases z) hr.gd (by omega) (fun _ _ e=>e) (fun h' t tk k=>fin h' t tk k) hl
    |dict e1 e2 e3 e4 e5=>cases nd
   ·exact h.elim
end
end LD
namespace LD
open PySem PySem.Spec PyProof.Rows L2
structure Box (p:Prop):Prop where
 h:p
section
variable {fa:Fa}{X:Cx}{a b c d elt tg iter t2 i2:Expr}{ga gb gd ge:GE}{ta tb gc:GT}{pos p p2 py spos:Pos}{es:List Expr}{gs:GA}{n:Nat}{scope:Scope}{own bn:List Str}{t u:Tgt}{gw gw2:GW}{i j:Nat}{x y nm:Str}{np hp apos cpos kp p1:Pos}{body suite:List Stmt}{b0:Stmt}{gB gH:GS}{j2:Nat}{p3:Pos}{z:Str}
theorem zan {i:Nat}{x:Str}(hN:X.N.Nodup)(hi:X.N[i]?=some x:=by exact rfl)(hx:Loc X.env.scope x:=by first|exact .inl rfl|exact .inr rfl|exact .inr (.inl rfl)|exact .inr (.inr rfl))(hf:X.fn x=true\/X.env.scope.names.lookup x=some .local:=by first|exact .inl rfl|exact .inr rfl|exact .inr (.inl rfl)|exact .inr (.inr rfl)):Box (PG X (.Name x pos) (gT fa X.K (.one i))):=⟨z48 hN hi hx hf⟩
theorem zfx (hN:X.N.Nodup){l:List Nat}{ns:List Expr}{k:Nat}(h:zj5 X l ns)(hc:X.calm=true:=by exact rfl):Box (PG X (.Tuple ns k pos) (gT fa X.K (.tup l))):=⟨dg_tup hc hN h⟩
theorem ze8 (ha:Box (DE fa X a ga)):Box (DI fa X tg a (zf7 ga)):=⟨di_seq ha.h⟩
theorem zgl (ha:Box (DE fa X a ga))(hm:X.mg "range"=none)(hg:Gl X "range":=by exact rfl)(hs:starEach [a] X.env=[(false,eval a X.env)]:=by exact rfl):Box (DI fa X tg (.Call (.Name "range" p) [a] [] pos) (zha ga)):=⟨z46 ha.h hg hm hs⟩
theorem zna {elts:List Expr}{kk:Nat}{tp:Pos}(ha:Box (DE fa X a ga))(hm:X.mg "enumerate"=none)(hg:Gl X "enumerate":=by exact rfl)(hs:starEach [a] X.env=[(false,eval a X.env)]:=by exact rfl):Box (DI fa X (.Tuple elts kk tp) (.Call (.Name "enumerate" p) [a] [] pos) (zlk ga)):=⟨z47 ha.h hg hm hs⟩
theorem zzj {fa:Fa}{X:Cx}{elts:List Expr}{kk:Nat}{tp p pos:Pos}{e0 e1:Expr}{g0 g1:Env->Mem->Res D}(h0:Box (DE fa X e0 g0))(h1:Box (DE fa X e1 g1))(hm:X.mg "zip"=none)(hg:Gl X "zip":=by exact rfl)(hs0:starEach [e0,e1] X.env=[(false,eval e0 X.env),(false,eval e1 X.env)]:=by exact rfl)(hs1:starEach [e1] X.env=[(false,eval e1 X.env)]:=by exact rfl):Box (DI fa X (.Tuple elts kk tp) (.Call (.Name "zip" p) [e0,e1] [] pos) (zmo g0 g1)):=⟨z44 h0.h h1.h hg hm hs0 hs1⟩
theorem zac {i:Nat}{x:Str}(hN:X.N[i]?=some x:=by exact rfl)(hv:Vis X.env.scope x:=by first|exact .inl rfl|exact .inr rfl|exact .inr (.inl rfl)|exact .inr (.inr rfl))(hd:(x==("__debug__":Str))=false:=by exact rfl)(hcd:(x==("__classdict__":Str))=false:=by exact rfl):Box (DE fa X (.Name x pos) (zad i)):=⟨d_var hN hv hd hcd⟩
theorem zag {i:Int}{j:Nat}:Box (DE fa X (.Constant (.int i) j pos) (gC (.int i))):=⟨d_int⟩
theorem zcj {i:Bool}{j:Nat}:Box (DE fa X (.Constant (.bool i) j pos) (gC (.bl i))):=⟨d_bl⟩
theorem zbj {i:Str}{j:Nat}:Box (DE fa X (.Constant (.str i) j pos) (gC (.str i))):=⟨d_str⟩
theorem zek {j:Nat}:Box (DE fa X (.Constant .none j pos) (gC .non)):=⟨d_non⟩
theorem zap {m:Bool}{o:Bin}(ha:Box (DE fa X a ga))(hb:Box (DE fa X b gb)):Box (DE fa X (.BinOp a (binOp o) b pos) (zaq m o ga gb)):=⟨d_bin m o ha.h hb.h⟩
theorem ze4 (hu:Rm X){o:Cmp}(ha:Box (DE fa X a ga))(hb:Box (DE fa X b gb))(hm:behindInMarks (zc8 o) b=false:=by exact rfl):Box (DE fa X (.Compare a [zc8 o] [b] pos) (za9 o ga gb)):=⟨d_cmp hu o ha.h hb.h hm⟩
theorem zbf (hu:Rm X){o:Cmp}(ha:Box (DE fa X a ga))(hb:Box (DE fa X b gb))(hm:behindInMarks (zc8 o) b=false:=by exact rfl):Box (DT fa X (.Compare a [zc8 o] [b] pos) (zau (za9 o ga gb))):=⟨dt_cmp hu o ha.h hb.h hm⟩
theorem zw2 (hu:Rm X){o:Cmp}{o':Cmp}{gc:GE}(ha:Box (DE fa X a ga))(hb:Box (DE fa X b gb))(hc:Box (DE fa X d gc))(hm:lastMarks [zc8 o,zc8 o'] [b,d]=false:=by exact rfl):Box (DE fa X (.Compare a [zc8 o,zc8 o'] [b,d] pos) (zkb o o' ga gb gc)):=⟨d_chn hu o o' ha.h hb.h hc.h hm⟩
theorem zw3 (hu:Rm X){o:Cmp}{o':Cmp}{gc:GE}(ha:Box (DE fa X a ga))(hb:Box (DE fa X b gb))(hc:Box (DE fa X d gc))(hm:lastMarks [zc8 o,zc8 o'] [b,d]=false:=by exact rfl):Box (DT fa X (.Compare a [zc8 o,zc8 o'] [b,d] pos) (zau (zkb o o' ga gb gc))):=⟨dt_chn hu o o' ha.h hb.h hc.h hm⟩
theorem zh5 (ha:Box (DE fa X a ga)):Box (DE fa X (.UnaryOp .USub a pos) (zfn ga)):=⟨d_neg ha.h⟩
theorem zdv {rest:List Expr}(ha:Box (DE fa X a ga))(hb:Box (DE fa X (.BoolOp .And (b::rest) pos) gb)):Box (DE fa X (.BoolOp .And (a::b::rest) pos) (zeh ga gb)):=⟨d_and ha.h hb.h⟩
theorem ze3 {op:PySem.BoolOp}(ha:Box (DE fa X a ga)):Box (DE fa X (.BoolOp op [a] pos) ga):=⟨d_one ha.h⟩
theorem xr_not (ha:Box (DE fa X a ga)):Box (DE fa X (.UnaryOp .Not a pos) (gNot ga)):=⟨d_not ha.h⟩
theorem zlq {rest:List Expr}(ha:Box (DT fa X a ta))(hb:Box (DW fa X (.BoolOp .And (b::rest) pos) tb)):Box (DW fa X (.BoolOp .And (a::b::rest) pos) (zhm ta tb)):=⟨dw_and ha.h hb.h⟩
theorem zds {rest:List Expr}(ha:Box (DT fa X a ta))(hb:Box (DW fa X (.BoolOp .Or (b::rest) pos) tb)):Box (DW fa X (.BoolOp .Or (a::b::rest) pos) (tOr ta tb)):=⟨dw_or ha.h hb.h⟩
theorem zo3 (ha:Box (DT fa X a ta)):Box (DW fa X (.BoolOp .And [a] pos) ta):=⟨z40 ha.h⟩
theorem zdp (ha:Box (DT fa X a ta)):Box (DW fa X (.BoolOp .Or [a] pos) ta):=⟨dw_or1 ha.h⟩
theorem zel (h:Box (DW fa X a ta)):Box (DT fa X a ta):=⟨PW.pt h.h⟩
theorem zb1 (ha:Box (DT fa X a ta)):Box (DT fa X (.UnaryOp .Not a pos) (zb7 ta)):=⟨dt_not ha.h⟩
theorem zbk (ha:Box (DE fa X a ga))(he:∀whole,isTrue a X.env whole=(do let v <- whole;standAt a.pos;holding [v] (truthy v)):=by exact fun _=>rfl):Box (DT fa X a (zau ga)):=⟨z10 ha.h he⟩
theorem zi3 {c:Expr}(hc:Box (DT fa X c ta))(ha:Box (DE fa X a ga))(hb:Box (DE fa X b gb)):Box (DE fa X (.IfExp c a b pos) (ze0 ta ga gb)):=⟨d_ite hc.h ha.h hb.h⟩
theorem zba (ha:Box (DE fa X a ga))(hb:Box (DE fa X b gb))(hs:zkv b:=by exact fun _ _=>rfl):Box (DE fa X (.Subscript a b pos) (za4 ga gb)):=⟨d_idx ha.h hb.h hs⟩
theorem zdk {m:Bool}{hl:Bool}{hh:Bool}{lo hi:Option Expr}{gl gh:GE}{p2:Pos}(ha:Box (DE fa X a ga))(hlo:Box (DO fa X lo hl gl))(hhi:Box (DO fa X hi hh gh)):Box (DE fa X (.Subscript a (.Slice lo hi none p2) pos) (zct m hl hh ga gl gh)):=⟨d_slc m hl hh ha.h hlo.h hhi.h⟩
theorem zcv :Box (DO fa X none false (gC .non)):=⟨z43⟩
theorem zcm (ha:Box (DE fa X a ga)):Box (DO fa X (some a) true ga):=⟨z42 ha.h⟩
theorem zah :Box (DA fa X [] zaj):=⟨da_nil⟩
theorem zab (ha:Box (DE fa X a ga))(hs:Box (DA fa X es gs))(h0:notStar a=true:=by exact rfl):Box (DA fa X (a::es) (zaa ga gs)):=⟨z5b ha.h hs.h (zck h0)⟩
theorem zdj {k:Nat}(hs:Box (DA fa X es gs)):Box (DE fa X (.Tuple es k pos) (zc4 gs)):=⟨d_tup hs.h⟩
theorem zbe {m:Bool}(hs:Box (DA fa X es gs)):Box (DE fa X (.List es pos) (zbd m gs)):=⟨d_lst m hs.h⟩
theorem zam {f:Nat}{x:Str}{call:Call}(C:∀f,zgc fa X.prog X.w X.K X.mg X.base n f (call f))(hr:zcl (n+4) X.A)(hm:∀ad,fa f=some ad->X.mg x=some (.ref ad))(hs:Box (DA fa X (a::es) gs))(hg:Gl X x:=by exact rfl)(hdb:(x==("__debug__":Str))=false:=by exact rfl)(he:notStar a=true:=by exact rfl)(hpl:es.all notStar=true:=by exact rfl):Box (DE fa X (.Call (.Name x p) (a::es) [] pos) (zao f call gs)):=⟨d_call (C f) hr hg hm hs.h hdb (zck he) (zdl hpl)⟩
theorem zzh {i:Nat}{x:Str}{call:Call}(C:∀f,zgc fa X.prog X.w X.K X.mg X.base n f (call f))(hr:zcl (n+4) X.A)(hs:Box (DA fa X (a::es) gs))(hN:X.N[i]?=some x:=by exact rfl)(hv:Vis X.env.scope x:=by first|exact .inl rfl|exact .inr rfl|exact .inr (.inl rfl)|exact .inr (.inr rfl))(hd:(x==("__debug__":Str))=false:=by exact rfl)(hcd:(x==("__classdict__":Str))=false:=by exact rfl)(he:notStar a=true:=by exact rfl)(hpl:es.all notStar=true:=by exact rfl):Box (DE fa X (.Call (.Name x p) (a::es) [] pos) (zl7 i call gs)):=⟨z5c C hr hN hv hs.h hd hcd (zck he) (zdl hpl)⟩
theorem zb9 (hm:X.mg "len"=none)(hs:Box (DA fa X (a::es) gs))(hg:Gl X "len":=by exact rfl)(he:notStar a=true:=by exact rfl)(hpl:es.all notStar=true:=by exact rfl):Box (DE fa X (.Call (.Name "len" p) (a::es) [] pos) (zbh .len gs)):=⟨zwq .len f_len hg hm PySem.boot_len hs.h (by decide) (by decide) (zck he) (zdl hpl)⟩
theorem zry (hm:X.mg "all"=none)(hs:Box (DA fa X (a::es) gs))(hc:X.calm=true:=by exact rfl)(hg:Gl X "all":=by exact rfl)(he:notStar a=true:=by exact rfl)(hpl:es.all notStar=true:=by exact rfl):Box (DE fa X (.Call (.Name "all" p) (a::es) [] pos) (zbh .all gs)):=⟨zwq .all (f_all hc) hg hm (by decide +kernel) hs.h (by decide) (by decide) (zck he) (zdl hpl)⟩
theorem zw1 (hm:X.mg "sum"=none)(hs:Box (DA fa X (a::es) gs))(hc:X.calm=true:=by exact rfl)(hg:Gl X "sum":=by exact rfl)(he:notStar a=true:=by exact rfl)(hpl:es.all notStar=true:=by exact rfl):Box (DE fa X (.Call (.Name "sum" p) (a::es) [] pos) (zbh .sum gs)):=⟨zwq .sum (f_sum hc) hg hm (by decide +kernel) hs.h (by decide) (by decide) (zck he) (zdl hpl)⟩
theorem zgj (hm:X.mg "tuple"=none)(hs:Box (DA fa X (a::es) gs))(hg:Gl X "tuple":=by exact rfl)(he:notStar a=true:=by exact rfl)(hpl:es.all notStar=true:=by exact rfl):Box (DE fa X (.Call (.Name "tuple" p) (a::es) [] pos) (zbh .tuple gs)):=⟨zyz .tuple z4s hg hm (by decide +kernel) hs.h (by decide) (by decide) (zck he) (zdl hpl)⟩
theorem zuj {m:Bool}(hm:X.mg "list"=none)(hs:Box (DA fa X (a::es) gs))(hg:Gl X "list":=by exact rfl)(he:notStar a=true:=by exact rfl)(hpl:es.all notStar=true:=by exact rfl):Box (DE fa X (.Call (.Name "list" p) (a::es) [] pos) (zbh (.list m) gs)):=⟨zyz (.list m) (f_list m) hg hm (by decide +kernel) hs.h (by decide) (by decide) (zck he) (zdl hpl)⟩
theorem zb3 {t:Ty}{x:Str}{p1 p2:Pos}(ha:Box (DE fa X a ga))(hm:X.mg "isinstance"=none)(hmt:X.mg x=none)(hvt:bootBuiltins x=some (.type (tyName t)))(ht:∀c,t≠.own c:=by exact fun _ h=>nomatch h)(hg:Gl X "isinstance":=by exact rfl)(hgt:Gl X x:=by exact rfl)(hn:x≠"__name__":=by decide)(hdb:(x==("__debug__":Str))=false:=by exact rfl)(he:starEach [a,.Name x p1] X.env=(false,eval a X.env)::starEach [.Name x p1] X.env:=by exact rfl):Box (DE fa X (.Call (.Name "isinstance" p2) [a,.Name x p1] [] pos) (zcb t ga)):=⟨d_inst t ht ha.h hg hm (by decide +kernel) hgt hmt hvt hn hdb he⟩
theorem za1 {tg:Expr}{t:Tgt}(ha:Box (DE fa X a ga))(hg:Box (PG X tg (gT fa X.K t)))(hs:swapsWithSole [tg] a pos.line X.env=pure false:=by exact rfl)(hw:swappedStores [tg] a X.env=pure none:=by exact rfl)(h1:(assignEach [tg] X.env).map (·.2)=[assign tg X.env]:=by exact rfl):Box (DS fa X (.Assign [tg] a pos) (za6 t ga)):=⟨ds_asg ha.h hg.h hs hw h1⟩
theorem zi1 {p2:Pos} (ha:Box (DE fa X a ga)) (hb:Box (DE fa X b gb)) (hd:Box (DE fa X d gd)) (h0:∀v,assign (.Subscript a b p2) X.env v=(do
 let ov <- holding [v] (eval a X.env)
 let iv <- holding [v,ov] (eval b X.env)
 standAt p2
 holding [v,ov,iv] (setItem ov iv v)
 release [v,ov,iv] []):=by exact fun _=>rfl) (hs:swapsWithSole [.Subscript a b p2] d pos.line X.env=pure false:=by exact rfl) (hw:swappedStores [.Subscript a b p2] d X.env=pure none:=by exact rfl) (h1:(assignEach [.Subscript a b p2] X.env).map (·.2)=[assign (.Subscript a b p2) X.env]:=by exact rfl):Box (DS fa X (.Assign [.Subscript a b p2] d pos) (zhr ga gb gd)):=⟨ds_put ha.h hb.h hd.h h0 hs hw h1⟩
theorem xs_app {apos cpos:Pos}(ha:Box (DE fa X a ga))(hd:Box (DE fa X d gd))(hbase:attributeBase a "append" X.env (eval a X.env)=eval a X.env:=by exact rfl)(hline:(apos.endLine==cpos.line)=true:=by exact rfl)(hs:starEach [d] X.env=[(false,eval d X.env)]:=by exact rfl)(hsw:swapsWith (.Call (.Attribute a "append" apos) [d] [] cpos) none pos.line X.env=pure false:=by exact rfl):Box (DS fa X (.Expr (.Call (.Attribute a "append" apos) [d] [] cpos) pos) (znh ga gd)):=⟨ds_app ha.h hd.h hbase hline hs hsw⟩
theorem zat (ha:Box (DE fa X a ga)):Box (DS fa X (.Return (some a) pos) (zbb ga)):=⟨ds_ret ha.h⟩
theorem za8 {c:Expr}{st sf:List Stmt}{gt gf:GS}(hc:Box (DT fa X c ta))(ht:Box (DSs fa X st gt))(hf:Box (DSs fa X sf gf)):Box (DS fa X (.If c st sf pos) (zbc ta gt gf)):=⟨ds_ite hc.h ht.h hf.h⟩
theorem zi2 {t:Tgt}{tg:Expr}{body:List Stmt}{gw:GW}{gb:GS}(hp:PassesOwn (model X.prog X.w) X.A X.env X.xe)(hi:Box (DI fa X tg a gw))(hg:Box (PG X tg (gT fa X.K t)))(hb:Box (DSs fa X body gb))(hc:X.calm=true:=by exact rfl)(hs:∀x,foldedSetIterable a X.env x=pure x:=by exact fun _=>rfl):Box (DS fa X (.For tg a body [] pos) (zik t gw gb)):=⟨ds_for hp hc hi.h hg.h hb.h hs⟩
theorem zai :Box (DSs fa X [] zak):=⟨z41⟩
theorem zae {st:Stmt}{ss:List Stmt}{g g':GS}(h1:Box (DS fa X st g))(h2:Box (DSs fa X ss g')):Box (DSs fa X (st::ss) (zaf g g')):=⟨z11 h1.h h2.h⟩
theorem zzd {m:Bool}{p1 p2 pos2:Pos}(ha:Box (DE fa X a ga))(hml:X.mg "list"=none)(hm:X.mg "range"=none)(hc:X.calm=true:=by exact rfl)(hgl:Gl X "list":=by exact rfl)(hg:Gl X "range":=by exact rfl)(hs:starEach [a] X.env=[(false,eval a X.env)]:=by exact rfl)(hs2:starEach [.Call (.Name "range" p2) [a] [] pos2] X.env=[(false,eval (.Call (.Name "range" p2) [a] [] pos2) X.env)]:=by exact rfl):Box (DE fa X (.Call (.Name "list" p1) [.Call (.Name "range" p2) [a] [] pos2] [] pos) (zl6 m ga)):=⟨z3q m hc ha.h hgl hml hg hm hs hs2⟩
theorem zeg {m:Bool}(S:zfw X own bn scope)(hi:Box (DI fa X tg iter gw))(pg:∀cl C fp s H,Box (PG (zdr X own bn scope cl C fp s H) tg (gT fa X.K t)))(he:∀cl C fp s H,Box (DE fa (zdr X own bn scope cl C fp s H) elt ge))(hc:X.calm=true:=by exact rfl)(hn:(slots t).all (· < own.length)=true:=by exact rfl)(hs:∀x,foldedSetIterable iter X.env x=pure x:=by exact fun _=>rfl):Box (DE fa X (.ListComp elt [⟨tg,iter,[],0⟩] scope pos) (zcs m own.length t gw (zc5 ge))):=⟨zyy m (W:=[]) (body:=fun a env=>eval elt env >>= fun x=>call (.builtin "list.append") [.ref a,x] >>= fun _=>pure ()) S hc hi.h ⟨(fun cl C fp s H=>(pg cl C fp s H).h),fun cl C fp s H a=>zox ((fun cl C fp s H=>(he cl C fp s H).h) cl C fp s H)⟩ (fun it a env=>zr1 elt tg iter [] scope pos (.ref it) (.ref a) env) (fun i h=>nomatch h) (by simpa using zk9 hn) hs⟩
theorem zlp {m:Bool}(S:zfw X own bn scope)(hi:Box (DI fa X tg iter gw))(pg:∀cl C fp s H,Box (PG (zdr X own bn scope cl C fp s H) tg (gT fa X.K t)))(ht:∀cl C fp s H,Box (DT fa (zdr X own bn scope cl C fp s H) c gc))(he:∀cl C fp s H,Box (DE fa (zdr X own bn scope cl C fp s H) elt ge))(hc:X.calm=true:=by exact rfl)(hn:(slots t).all (· < own.length)=true:=by exact rfl)(hs:∀x,foldedSetIterable iter X.env x=pure x:=by exact fun _=>rfl):Box (DE fa X (.ListComp elt [⟨tg,iter,[c],0⟩] scope pos) (zcs m own.length t gw (gIf gc (zc5 ge)))):=⟨zyy m (W:=[]) (body:=fun a env=>isTrue c env (eval c env) >>= fun ok=>if ok=true then (eval elt env >>= fun x=>call (.builtin "list.append") [.ref a,x] >>= fun _=>pure ()) else pure ()) S hc hi.h ⟨(fun cl C fp s H=>(pg cl C fp s H).h),fun cl C fp s H a=>db_if ((fun cl C fp s H=>(ht cl C fp s H).h) cl C fp s H) (zox ((fun cl C fp s H=>(he cl C fp s H).h) cl C fp s H))⟩ (fun it a env=>turn_if elt tg iter c scope pos (.ref it) (.ref a) env) (fun i h=>nomatch h) (by simpa using zk9 hn) hs⟩
theorem zzc {m:Bool}(S:zfw X own bn scope)(hi:Box (DI fa X tg iter gw))(pg:∀cl C fp s H,Box (PG (zdr X own bn scope cl C fp s H) tg (gT fa X.K t)))(he:∀cl C fp s H,Box (DE fa (zdr X own bn scope cl C fp s H) elt ge))(hN:X.N.Nodup)(hc:X.calm=true:=by exact rfl)(hn:(slots t).all (· < own.length)=true:=by exact rfl)(hs:∀x,foldedSetIterable iter X.env x=pure x:=by exact fun _=>rfl)(hy:X.N[i]?=some y:=by exact rfl)(hl:X.env.scope.names.lookup y=some .local:=by exact rfl)(hsw:swapsWith (.ListComp elt [⟨tg,iter,[],0⟩] scope pos) (some (.Name y py)) spos.line X.env=pure true:=by exact rfl):Box (DS fa X (.Assign [.Name y py] (.ListComp elt [⟨tg,iter,[],0⟩] scope pos) spos) (za6 (.one i) (zcs m own.length t gw (zc5 ge)))):=⟨zxs m (W:=[]) (body:=fun a env=>eval elt env >>= fun x=>call (.builtin "list.append") [.ref a,x] >>= fun _=>pure ()) S hc hi.h ⟨(fun cl C fp s H=>(pg cl C fp s H).h),fun cl C fp s H a=>zox ((fun cl C fp s H=>(he cl C fp s H).h) cl C fp s H)⟩ (fun it a env=>zr1 elt tg iter [] scope pos (.ref it) (.ref a) env) (fun i h=>nomatch h) (by simpa using zk9 hn) hs hN hy hl hsw⟩
theorem zw0 {m:Bool}(S:zfw X own bn scope)(hi:Box (DI fa X tg iter gw))(pg:∀cl C fp s H,Box (PG (zdr X own bn scope cl C fp s H) tg (gT fa X.K t)))(ht:∀cl C fp s H,Box (DT fa (zdr X own bn scope cl C fp s H) c gc))(he:∀cl C fp s H,Box (DE fa (zdr X own bn scope cl C fp s H) elt ge))(hN:X.N.Nodup)(hc:X.calm=true:=by exact rfl)(hn:(slots t).all (· < own.length)=true:=by exact rfl)(hs:∀x,foldedSetIterable iter X.env x=pure x:=by exact fun _=>rfl)(hy:X.N[i]?=some y:=by exact rfl)(hl:X.env.scope.names.lookup y=some .local:=by exact rfl)(hsw:swapsWith (.ListComp elt [⟨tg,iter,[c],0⟩] scope pos) (some (.Name y py)) spos.line X.env=pure true:=by exact rfl):Box (DS fa X (.Assign [.Name y py] (.ListComp elt [⟨tg,iter,[c],0⟩] scope pos) spos) (za6 (.one i) (zcs m own.length t gw (gIf gc (zc5 ge))))):=⟨zxs m (W:=[]) (body:=fun a env=>isTrue c env (eval c env) >>= fun ok=>if ok=true then (eval elt env >>= fun x=>call (.builtin "list.append") [.ref a,x] >>= fun _=>pure ()) else pure ()) S hc hi.h ⟨(fun cl C fp s H=>(pg cl C fp s H).h),fun cl C fp s H a=>db_if ((fun cl C fp s H=>(ht cl C fp s H).h) cl C fp s H) (zox ((fun cl C fp s H=>(he cl C fp s H).h) cl C fp s H))⟩ (fun it a env=>turn_if elt tg iter c scope pos (.ref it) (.ref a) env) (fun i h=>nomatch h) (by simpa using zk9 hn) hs hN hy hl hsw⟩
theorem zgk {x:Str}{i:Int}(hm:∃t,X.mg x=some (.int i t))(hg:Gl X x:=by exact rfl)(hd:(x==("__debug__":Str))=false:=by exact rfl):Box (DE fa X (.Name x pos) (gC (.int i))):=⟨let ⟨_,h⟩:=hm;r_gint hg h hd⟩
theorem zzg {x:Str}{b:Expr}{gb:GE}{p:Pos}{fs:List (Str×Nat)}(h:∃ad kvs,X.mg x=some (.ref ad)/\zix X.K X.w.params ad kvs/\zfj fa kvs fs)(hb:Box (DE fa X b gb))(hg:Gl X x:=by exact rfl)(hdb:(x==("__debug__":Str))=false:=by exact rfl)(hs:zkv b:=by exact fun _ _=>rfl):Box (DE fa X (.Subscript (.Name x p) b pos) (zmr fs gb)):=⟨let ⟨_,_,h1,h2,h3⟩:=h;r_dget h2 h3 hg h1 hdb hb.h hs⟩
theorem zzi {x:Str}{a:Expr}{ga:GE}{p:Pos}{fs:List (Str×Nat)}(h:∃ad kvs,X.mg x=some (.ref ad)/\zix X.K X.w.params ad kvs/\zfj fa kvs fs)(ha:Box (DE fa X a ga))(hg:Gl X x:=by exact rfl)(hdb:(x==("__debug__":Str))=false:=by exact rfl)(hmk:behindInMarks .NotIn (.Name x p)=false:=by exact rfl):Box (DT fa X (.Compare a [.NotIn] [.Name x p] pos) (zau (zmq fs ga))):=⟨let ⟨_,_,h1,h2,h3⟩:=h;q_dnot h2 h3 hg h1 hdb ha.h hmk⟩
theorem xr_rev {m:Bool}{pc pu:Pos}{k:Nat}(ha:Box (DE fa X a ga)):Box (DE fa X (.Subscript a (.Slice none none (some (.UnaryOp .USub (.Constant (.int 1) k pc) pu)) p2) pos) (gRev m ga)):=⟨r_rev m ha.h⟩
theorem zuh {hl:Bool}{hh:Bool}{lo hi:Option Expr}{gl gh:GE}(ha:Box (DE fa X a ga))(hlo:Box (DO fa X lo hl gl))(hhi:Box (DO fa X hi hh gh)):Box (DE fa X (.Subscript a (.Slice lo hi none p2) pos) (zmp hl hh ga gl gh)):=⟨r_slcS hl hh ha.h hlo.h hhi.h⟩
theorem zzk (ha:Box (DE fa X a ga)):Box (DI fa X tg a (zot ga)):=⟨z45 ha.h⟩
theorem zkg {f:Nat}{x:Str}{call:Call}(C:∀f,zgc fa X.prog X.w X.K X.mg X.base n f (call f))(hr:zcl (n+4) X.A)(hm:∀ad,fa f=some ad->X.mg x=some (.ref ad))(hs:Box (DA fa X (a::es) gs))(hex:X.ex=[]:=by exact rfl)(hg:Gl X x:=by exact rfl)(hdb:(x==("__debug__":Str))=false:=by exact rfl)(he:notStar a=true:=by exact rfl)(hpl:es.all notStar=true:=by exact rfl):Box (DX fa X (.Call (.Name x p) (a::es) [] pos) (zga f call gs)):=⟨x_call f C hr hex hg hm hs.h hdb he hpl⟩
theorem zrx (ha:Box (DX fa X a ga))(hs:swapsWith a none pos.line X.env=pure false:=by exact rfl):Box (DS fa X (.Expr a pos) (zly ga)):=⟨s_exX ha.h hs⟩
theorem zug {tg:Expr}{t:Tgt}(ha:Box (DX fa X a ga))(hg:Box (PG X tg (gT fa X.K t)))(hs:swapsWithSole [tg] a pos.line X.env=pure false:=by exact rfl)(hw:swappedStores [tg] a X.env=pure none:=by exact rfl)(h1:(assignEach [tg] X.env).map (·.2)=[assign tg X.env]:=by exact rfl):Box (DS fa X (.Assign [tg] a pos) (zla t ga)):=⟨s_asgX ha.h hg.h hs hw h1⟩
theorem zrw {c:Nat}{x:Str}{np cpos:Pos}(hx:∃C,X.mg x=some (.ref C)/\fa (cid c)=some C/\PySem.W.excIn X.K C bmV "ValueError.__new__"=true)(hs:Box (DA fa X (a::es) gs))(hex:X.ex=[]:=by exact rfl)(hg:Gl X x:=by exact rfl)(hc:X.calm=true:=by exact rfl)(hdb:(x==("__debug__":Str))=false:=by exact rfl)(he:notStar a=true:=by exact rfl)(hpl:es.all notStar=true:=by exact rfl):Box (DS fa X (.Raise (some (.Call (.Name x np) (a::es) [] cpos)) none pos) (zje c gs)):=⟨z3l c hx hex hg hc hs.h hdb he hpl⟩
theorem zdc {k:Nat}(hc:XCs fa X.K)(hx:∃D,X.mg x=some (.ref D)/\fa (cid k)=some D)(ha:Box (DE fa X a ga))(hm:X.mg "isinstance"=none)(hg:Gl X "isinstance":=by exact rfl)(hgt:Gl X x:=by exact rfl)(hdb:(x==("__debug__":Str))=false:=by exact rfl)(he:starEach [a,.Name x p1] X.env=(false,eval a X.env)::starEach [.Name x p1] X.env:=by exact rfl):Box (DE fa X (.Call (.Name "isinstance" p2) [a,.Name x p1] [] pos) (zcz (some k) ga)):=⟨z3r k hc hx ha.h hg hm hgt hdb he⟩
theorem zzf (hc:XCs fa X.K)(hx:∃D,X.mg x=some (.ref D)/\fa 999=some D)(ha:Box (DE fa X a ga))(hm:X.mg "isinstance"=none)(hg:Gl X "isinstance":=by exact rfl)(hgt:Gl X x:=by exact rfl)(hdb:(x==("__debug__":Str))=false:=by exact rfl)(he:starEach [a,.Name x p1] X.env=(false,eval a X.env)::starEach [.Name x p1] X.env:=by exact rfl):Box (DE fa X (.Call (.Name "isinstance" p2) [a,.Name x p1] [] pos) (zcz none ga)):=⟨z3s hc hx ha.h hg hm hgt hdb he⟩
theorem zze (hc:XCs fa X.K)(ha:Box (DE fa X a ga))(hm:X.mg "isinstance"=none)(hmt:X.mg "ValueError"=none)(hg:Gl X "isinstance":=by exact rfl)(hgt:Gl X "ValueError":=by exact rfl)(he:starEach [a,.Name "ValueError" p1] X.env=(false,eval a X.env)::starEach [.Name "ValueError" p1] X.env:=by exact rfl):Box (DE fa X (.Call (.Name "isinstance" p2) [a,.Name "ValueError" p1] [] pos) (zcz none ga)):=⟨zch (zhs (z4u (fa:=fa) hc) hg hm (by decide +kernel) (zcq ha.h (zcq (zu0 hgt hmt (by decide +kernel) (v:=.ty "ValueError") rfl) zd9 (by rfl)) he) (by decide) (by decide) he (by rfl)) fun σ H Q h=>zpv h⟩
theorem xs_try (hc:XCs fa X.K)(hx:∃D,X.mg x=some (.ref D)/\fa 999=some D)(hN:X.N.Nodup)(hb:∀pn E,Box (DSs fa (zos X pn E) body gB))(hh:∀v E,Box (DSs fa (zro X v E) (b0::suite) gH))(hex:X.ex=[]:=by exact rfl)(hst:X.stack=X.env::X.outer:=by exact rfl)(hfr:X.env.frame=some X.env.locals:=by exact rfl)(hi:X.N[i]?=some nm:=by exact rfl)(hl:X.env.scope.names.lookup nm=some .local:=by exact rfl)(hg:Gl X x:=by exact rfl)(hdb:(x==("__debug__":Str))=false:=by exact rfl):Box (DS fa X (.Try body [.ExceptHandler (some (.Name x np)) (some nm) (b0::suite) hp] [] [] pos) (sTry gB i gH)):=⟨s_try hc hx hex hst hfr hN hi hl hg hdb (fun pn E=>(hb pn E).h) (fun v E=>(hh v E).h)⟩
theorem z27 (ha:Box (DE fa X a ga))(hbase:attributeBase a "count" X.env (eval a X.env)=eval a X.env:=by exact rfl)(hline:(apos.endLine==cpos.line)=true:=by exact rfl):Box (DE fa X (.Call (.Attribute a "count" apos) [.Constant (.bool true) j kp] [] cpos) (zwm ga)):=⟨r_cntT ha.h hbase hline⟩
theorem z26 (ha:Box (DE fa X a ga))(hbase:attributeBase a "index" X.env (eval a X.env)=eval a X.env:=by exact rfl)(hline:(apos.endLine==cpos.line)=true:=by exact rfl):Box (DE fa X (.Call (.Attribute a "index" apos) [.Constant (.bool true) j kp] [] cpos) (zwl ga)):=⟨r_idxT ha.h hbase hline⟩
theorem zp9 {c:Nat}(J:zkw fa X.prog X.w X.K X.mg X.base c x)(hr:zcl 2 X.A)(ha:Box (DE fa X a ga))(hex:X.ex=[]:=by exact rfl)(hg:Gl X x:=by exact rfl)(hc:X.calm=true:=by exact rfl)(hdb:(x==("__debug__":Str))=false:=by exact rfl)(he:notStar a=true:=by exact rfl):Box (DS fa X (.Raise (some (.Call (.Name x np) [a] [] cpos)) none pos) (zhq c ga)):=⟨zz9 c J hr hex hg hc ha.h hdb he⟩
theorem zm9 {f:Str}(hc:XCs fa X.K)(hf:XFl fa X.K f)(ha:Box (DE fa X a ga))(hb:attributeBase a f X.env (eval a X.env)=eval a X.env:=by exact rfl):Box (DE fa X (.Attribute a f pos) (zjn f ga)):=⟨z3t f hc hf ha.h hb⟩
theorem xr_f3 {fa:Fa}{X:Cx}{a:Expr}{ga:GE}{pos p1 p2 p3:Pos}{j j2:Nat}{z y:Str}(ha:Box (DE fa X a ga)):Box (DE fa X (.JoinedStr [.Constant (.str z) j p1,.FormattedValue a (-1) none p2,.Constant (.str y) j2 p3] pos) (gF3 z y ga)):=⟨r_f3 ha.h⟩
theorem zui (hr:zcl (n+4) X.A)(hm:X.mg "repr"=none)(hs:Box (DA fa X (a::es) gs))(hg:Gl X "repr":=by exact rfl)(he:notStar a=true:=by exact rfl)(hpl:es.all notStar=true:=by exact rfl):Box (DE fa X (.Call (.Name "repr" p) (a::es) [] pos) (zis gs)):=⟨zch (zhs (f_repr (fa:=fa) hr) hg hm (by decide +kernel) hs.h (by decide) (by decide) (zck he) (zdl hpl)) fun σ H Q ⟨μ,Z,M,hE,hM,h⟩=>tA1 hE hM h fun ds M1 vs H1 μ1 x1 hE1 hM1 r1 h1=>⟨μ1,M1,ds,hM1,r1,okW h1 x1⟩⟩
theorem unbox {st:List Stmt}{g:GS}(h:Box (DSs fa X st g)):DSs fa X st g:=h.h
end
end LD
namespace LD
open PySem
abbrev gI (n:Int):GE:=gC (.int n)
abbrev gS (x:Str):GE:=gC (.str x)
abbrev gN:GE:=gC .non
abbrev gTt:GE:=gC (.bl true)
abbrev gFf:GE:=gC (.bl false)
abbrev rF:GS:=zaf (zbb gFf) zak
end LD
namespace LD
open PySem
def zdm:List (Str×Nat):=[("turn",7),("join",8),("move",9),("put",10)]
def ztp:List (Str×Nat):=[("turn",20),("join",21),("move",22),("put",23)]
def zep (c:Call):GS:=zaf (zbc (tOr (zau (zcb .bool (zad 0))) (zb7 (zau (zcb .int (zad 0))))) rF zak) (zaf (zbb (zkb .le .le (zad 1) (zad 0) (zad 2))) zak)
def zic (c:Call):GS:=zaf (zbb (zao 0 c (zaa (zad 1) (zaa (gI 0) (zaa (zaq false .sub (zad 0) (gI 1)) zaj))))) zak
def zhf (c:Call):GS:=zaf (zbb (zao 0 c (zaa (zad 1) (zaa (gI 0) (zaa (zaq false .sub (zad 0) (gI 1)) zaj))))) zak
def zid (c:Call):GS:=zaf (zbb (zao 0 c (zaa (zad 0) (zaa (gI 1) (zaa (gI 3) zaj))))) zak
def ze5 (c:Call):GS:=zaf (zbb (zeh (zcb .tuple (zad 1)) (za9 .eq (zbh .len (zaa (zad 1) zaj)) (zad 0)))) zak
def zhe (c:Call):GS:=zaf (zbb (zeh (zao 4 c (zaa (zad 0) (zaa (zad 1) zaj))) (zbh .all (zaa (zcs false 1 (.one 0) (zf7 (zad 1)) (zc5 (zao 1 c (zaa (zad 1) (zaa (zad 0) zaj))))) zaj)))) zak
def zdw (c:Call):GS:=zaf (zbb (zeh (zao 4 c (zaa (zad 0) (zaa (zad 1) zaj))) (zbh .all (zaa (zcs false 1 (.one 0) (zf7 (zad 1)) (zc5 (zao 5 c (zaa (zad 1) (zaa (zad 0) zaj))))) zaj)))) zak
def zfp (c:Call):GS:=zaf (zbc (zau (za9 .ne (zbh .len (zaa (zad 2) zaj)) (gI 3))) rF zak) (zaf (za6 (.tup [3,4,5]) (zad 2)) (zaf (zbb (zeh (zao 2 c (zaa (zad 1) (zaa (zad 3) zaj))) (zeh (zao 5 c (zaa (zad 0) (zaa (zad 4) zaj))) (zao 3 c (zaa (zad 5) zaj))))) zak))
def zfr (c:Call):GS:=zaf (zbc (zau (za9 .ne (zbh .len (zaa (zad 2) zaj)) (gI 4))) rF zak) (zaf (za6 (.tup [3,4,5,6]) (zad 2)) (zaf (zbc (tOr (zb7 (zau (zao 2 c (zaa (zad 1) (zaa (zad 3) zaj))))) (zb7 (zau (zao 2 c (zaa (zad 1) (zaa (zad 4) zaj)))))) rF zak) (zaf (zbb (zeh (zao 6 c (zaa (zad 0) (zaa (zad 5) zaj))) (zao 3 c (zaa (zad 6) zaj)))) zak)))
def zfq (c:Call):GS:=zaf (zbc (zau (za9 .ne (zbh .len (zaa (zad 2) zaj)) (gI 3))) rF zak) (zaf (za6 (.tup [3,4,5]) (zad 2)) (zaf (zbb (zeh (zao 2 c (zaa (zad 1) (zaa (zad 3) zaj))) (zeh (zao 2 c (zaa (zad 1) (zaa (zad 4) zaj))) (zao 3 c (zaa (zad 5) zaj))))) zak))
def zgs (c:Call):GS:=zaf (zbc (zau (za9 .ne (zbh .len (zaa (zad 2) zaj)) (gI 3))) rF zak) (zaf (za6 (.tup [3,4,5]) (zad 2)) (zaf (zbb (zeh (zao 2 c (zaa (zad 1) (zaa (zad 3) zaj))) (zeh (zao 1 c (zaa (zad 0) (zaa (zad 4) zaj))) (zao 3 c (zaa (zad 5) zaj))))) zak))
def zfs (c:Call):GS:=zaf (zbc (tOr (zb7 (zau (zcb .tuple (zad 2)))) (zb7 (zau (zad 2)))) rF zak) (zaf (za6 (.one 3) (za4 (zad 2) (gI 0))) (zaf (zbc (tOr (zb7 (zau (zcb .str (zad 3)))) (zau (zmq zdm (zad 3)))) rF zak) (zaf (za6 (.one 4) (zmr zdm (zad 3))) (zaf (zbb (zl7 4 c (zaa (zad 0) (zaa (zad 1) (zaa (zct false true false (zad 2) (gI 1) gN) zaj))))) zak))))
def zeo (c:Call):GS:=zaf (zbc (zb7 (zau (zao 4 c (zaa (gI 3) (zaa (zad 0) zaj))))) rF zak) (zaf (za6 (.tup [1,2,3]) (zad 0)) (zaf (zbc (tOr (zb7 (zau (zao 0 c (zaa (zad 1) (zaa (gI 2) (zaa (gI 4) zaj)))))) (zb7 (zau (zao 0 c (zaa (zad 2) (zaa (gI 1) (zaa (gI 2) zaj))))))) rF zak) (zaf (zbc (tOr (zb7 (zau (zcb .tuple (zad 3)))) (zb7 (zau (zkb .le .le (gI 1) (zbh .len (zaa (zad 3) zaj)) (gI 6))))) rF zak) (zaf (zbb (zbh .all (zaa (zcs false 1 (.one 0) (zf7 (zad 3)) (zc5 (zao 11 c (zaa (zad 2) (zaa (zad 3) (zaa (zad 0) zaj)))))) zaj))) zak))))
def zc9 (c:Call):GS:=zaf (zbc (zb7 (zau (zao 12 c (zaa (zad 0) zaj)))) (zaf (zje 3 (zaa (gS "this is no machine") zaj)) zak) zak) zak
def zd4 (c:Call):GS:=zaf (zbb (zao 0 c (zaa (zad 1) (zaa (gI 0) (zaa (zaq false .sub (zbh .len (zaa (za4 (zad 0) (gI 2)) zaj)) (gI 1)) zaj))))) zak
def zco (c:Call):GS:=zaf (zbc (zb7 (zau (zcb .list (zad 1)))) (zaf (zhq 0 (gI 0)) zak) zak) (zaf (zik (.tup [2,3]) (zlk (zad 1)) (zaf (zbc (zb7 (zau (zao 16 c (zaa (zad 0) (zaa (zad 3) zaj))))) (zaf (zhq 0 (zad 2)) zak) zak) zak)) zak)
def zdo (c:Call):GS:=zaf (zly (zga 13 c (zaa (zad 0) zaj))) (zaf (zly (zga 17 c (zaa (zad 0) (zaa (zad 1) zaj)))) (zaf (zbc (zau (za9 .gt (zbh .len (zaa (zad 1) zaj)) (gI 40))) (zaf (zje 4 (zaa (gF3 "a row has at most " " deeds" (gI 40)) zaj)) zak) zak) zak))
def zhg (c:Call):GS:=zaf (zly (zga 18 c (zaa (zad 0) (zaa (zad 1) zaj)))) (zaf (zbb (zao 47 c (zaa (zad 0) (zaa (zad 1) zaj)))) zak)
def z2b (c:Call):GS:=zaf (za6 (.tup [2,3,4,5]) (zad 0)) (zaf (zbb (za4 (zad 4) (za4 (zad 1) (zad 3)))) zak)
def z2d (c:Call):GS:=zaf (za6 (.tup [2,3,4,5,6]) (zad 0)) (zaf (zbb (za4 (za4 (zad 5) (za4 (zad 1) (zad 3))) (za4 (zad 1) (zad 4)))) zak)
def z5i (c:Call):GS:=zaf (za6 (.tup [2,3,4,5]) (zad 0)) (zaf (zbb (za4 (zad 1) (zad 4))) zak)
def z2c (c:Call):GS:=zaf (za6 (.tup [2,3,4,5]) (zad 0)) (zaf (zbb (zad 4)) zak)
def b_done (c:Call):GS:=zaf (za6 (.one 2) (zmr ztp (za4 (zad 0) (gI 0)))) (zaf (za6 (.one 3) (za4 (zad 0) (gI 1))) (zaf (zbb (zaq false .add (zaq false .add (zct false false true (zad 1) gN (zad 3)) (zc4 (zaa (zl7 2 c (zaa (zad 0) (zaa (zad 1) zaj))) zaj))) (zct false true false (zad 1) (zaq false .add (zad 3) (gI 1)) gN))) zak))
def zp2 (c:Call):GS:=zaf (za6 (.one 3) (zbd true (zaa (zad 2) zaj))) (zaf (zik (.one 4) (zf7 (zad 1)) (zaf (znh (zad 3) (zao 24 c (zaa (za4 (za4 (zad 0) (gI 2)) (zad 4)) (zaa (za4 (zad 3) (zfn (gI 1))) zaj)))) zak)) (zaf (zbb (zad 3)) zak))
def zgg (c:Call):GS:=zaf (zbc (zau (za9 .ge (zad 0) (zaq false .pow (gI 10) (gI 18)))) (zaf (zbb (zad 0)) zak) zak) (zaf (za6 (.one 2) (zbd false (zaa (gI 2147483629) (zaa (gI 2147483587) (zaa (gI 2147483579) (zaa (gI 2147483563) (zaa (gI 2147483549) (zaa (gI 2147483543) (zaa (gI 2147483497) (zaa (gI 2147483489) zaj)))))))))) (zaf (za6 (.one 2) (zaq false .add (zad 2) (zbd false (zaa (gI 2147483477) (zaa (gI 2147483423) (zaa (gI 2147483399) (zaa (gI 2147483353) (zaa (gI 2147483323) zaj)))))))) (zaf (za6 (.one 3) (zaq false .mod (zaq false .pow (zaq false .add (zaq false .add (zaq false .mul (zaq false .mod (zad 0) (gI 1000000007)) (zaq false .add (zaq false .mul (gI 2) (zad 1)) (gI 69069))) (zaq false .mul (zad 1) (gI 40503))) (gI 977)) (gI 3)) (za4 (zad 2) (zaq false .mod (zad 1) (gI 13))))) (zaf (za6 (.one 4) (zaq false .mod (zaq false .pow (zaq false .add (zaq false .add (zaq false .mul (zad 3) (zaq false .add (zad 1) (gI 3))) (zaq false .mod (zad 0) (gI 65537))) (gI 5)) (gI 5)) (za4 (zad 2) (zaq false .mod (zaq false .add (zad 1) (gI 5)) (gI 13))))) (zaf (za6 (.one 5) (zaq false .mod (zaq false .pow (zaq false .add (zaq false .add (zad 4) (zaq false .mod (zad 3) (gI 1009))) (zad 1)) (gI 3)) (za4 (zad 2) (zaq false .mod (zaq false .add (zad 1) (gI 7)) (gI 13))))) (zaf (zbb (zaq false .add (zaq false .mul (zaq false .add (zaq false .mul (zad 3) (gI 2147483647)) (zad 4)) (gI 2147483647)) (zad 5))) zak))))))
def zh3 (c:Call):GS:=zaf (za6 (.one 1) (zbh (.list true) (zaa (zct false false true (zad 0) gN (gI 12)) zaj))) (zaf (zik (.tup [2,3]) (zlk (zct false true true (zad 0) (gI 12) (gI 63))) (zaf (zhr (zad 1) (zaq false .mod (zad 2) (gI 12)) (zaq false .add (za4 (zad 1) (zaq false .mod (zad 2) (gI 12))) (zad 3))) zak)) (zaf (zbb (zbd true (zaa (zad 1) (zaa (gI 0) (zaa (gI 0) zaj))))) zak))
def zh4 (c:Call):GS:=zaf (zhr (zad 0) (gI 2) (gI 0)) (zaf (zbb (zad 0)) zak)
def zkd (c:Call):GS:=zaf (zbc (zau (za9 .lt (za4 (zad 0) (gI 2)) (zad 1))) (zaf (za6 (.one 2) (za4 (zad 0) (gI 1))) (zaf (za6 (.one 3) (gI 0)) (zaf (zbc (zau (za9 .lt (zad 2) (zbh .len (zaa (za4 (zad 0) (gI 0)) zaj)))) (zaf (za6 (.one 3) (za4 (za4 (zad 0) (gI 0)) (zad 2))) zak) (zaf (zbc (zau (za9 .gt (zbh .len (zaa (za4 (zad 0) (gI 0)) zaj)) (gI 0))) (zaf (za6 (.one 3) (zaq false .mod (za4 (za4 (zad 0) (gI 0)) (zaq false .mod (zaq false .add (zaq false .mul (zad 2) (gI 5)) (gI 3)) (zbh .len (zaa (za4 (zad 0) (gI 0)) zaj)))) (zaq false .add (zaq false .pow (gI 10) (gI 17)) (zad 2)))) zak) zak) zak)) (zaf (zhr (zad 0) (gI 1) (zaq false .add (zad 2) (gI 1))) (zaf (zhr (zad 0) (gI 2) (zao 28 c (zaa (zad 3) (zaa (zad 2) zaj)))) zak))))) zak) (zaf (za6 (.one 4) (zaq false .mod (za4 (zad 0) (gI 2)) (zad 1))) (zaf (zhr (zad 0) (gI 2) (zaq false .fdiv (za4 (zad 0) (gI 2)) (zad 1))) (zaf (zbb (zad 4)) zak)))
def zhh (c:Call):GS:=zaf (za6 (.one 2) (zao 31 c (zaa (zad 0) (zaa (gI 6) zaj)))) (zaf (za6 (.one 3) (zao 31 c (zaa (zad 0) (zaa (zad 1) zaj)))) (zaf (za6 (.one 4) (zao 31 c (zaa (zad 0) (zaa (zad 1) zaj)))) (zaf (zbc (zau (za9 .lt (zad 2) (gI 2))) (zaf (zbb (zbh .tuple (zaa (zcs false 1 (.one 0) (zha (zad 1)) (zc5 (zao 31 c (zaa (zad 1) (zaa (zad 2) zaj))))) zaj))) zak) zak) (zaf (zbc (zau (za9 .eq (zad 2) (gI 2))) (zaf (zbb (zbh .tuple (zaa (zcs false 1 (.one 0) (zha (zad 1)) (zc5 (zaq false .mod (zaq false .add (zaq false .add (zad 0) (gI 1)) (zad 4)) (zad 2)))) zaj))) zak) zak) (zaf (zbc (zau (za9 .eq (zad 2) (gI 3))) (zaf (zbb (zbh .tuple (zaa (zcs false 1 (.one 0) (zha (zad 1)) (zc5 (ze0 (zau (za9 .eq (zad 0) (zad 4))) (zad 5) (zad 0)))) zaj))) zak) zak) (zaf (zbc (zau (za9 .eq (zad 2) (gI 4))) (zaf (zbb (zaq false .mul (zc4 (zaa (zad 3) zaj)) (zad 1))) zak) zak) (zaf (za6 (.one 5) (zl6 true (zad 1))) (zaf (zhr (zad 5) (zad 3) (zad 4)) (zaf (zhr (zad 5) (zad 4) (zad 3)) (zaf (zbb (zbh .tuple (zaa (zad 5) zaj))) zak))))))))))
def zgb (c:Call):GS:=zaf (za6 (.one 3) (zao 31 c (zaa (zad 0) (zaa (gI 8) zaj)))) (zaf (za6 (.one 4) (zaq false .add (gI 1) (zao 31 c (zaa (zad 0) (zaa (gI 3) zaj))))) (zaf (za6 (.one 5) (zao 31 c (zaa (zad 0) (zaa (zad 2) zaj)))) (zaf (za6 (.one 6) (zao 31 c (zaa (zad 0) (zaa (zad 2) zaj)))) (zaf (zbc (zau (za9 .lt (zad 3) (gI 3))) (zaf (zbb (zc4 (zaa (gS "turn") (zaa (zad 5) (zaa (zao 32 c (zaa (zad 0) (zaa (zad 1) zaj))) (zaa (zad 4) zaj)))))) zak) zak) (zaf (zbc (zau (za9 .lt (zad 3) (gI 5))) (zaf (zbb (zc4 (zaa (gS "move") (zaa (zad 5) (zaa (ze0 (zau (za9 .eq (zad 3) (gI 3))) (zaq false .mod (zaq false .add (zad 5) (gI 1)) (zad 2)) (zad 6)) (zaa (zad 4) zaj)))))) zak) zak) (zaf (zbc (zau (za9 .eq (zad 3) (gI 5))) (zaf (zbb (zc4 (zaa (gS "put") (zaa (zad 5) (zaa (zao 31 c (zaa (zad 0) (zaa (zad 1) zaj))) (zaa (zad 4) zaj)))))) zak) zak) (zaf (zbb (zc4 (zaa (gS "join") (zaa (zad 5) (zaa (zad 6) (zaa (zbh .tuple (zaa (zcs false 1 (.one 0) (zha (zad 1)) (zc5 (zao 32 c (zaa (zad 1) (zaa (zad 2) zaj))))) zaj)) (zaa (zad 4) zaj))))))) zak)))))))
def zeq (c:Call):GS:=zaf (za6 (.one 1) (zaq false .add (gI 2) (zao 31 c (zaa (zad 0) (zaa (zaq false .sub (zad 1) (gI 1)) zaj))))) (zaf (za6 (.one 2) (zaq false .add (gI 1) (zao 31 c (zaa (zad 0) (zaa (zad 2) zaj))))) (zaf (za6 (.one 4) (zbd true zaj)) (zaf (zik (.one 5) (zha (zaq false .add (gI 1) (zao 31 c (zaa (zad 0) (zaa (zad 3) zaj))))) (zaf (za6 (.one 6) (zao 31 c (zaa (zad 0) (zaa (gI 5) zaj)))) (zaf (za6 (.one 7) (zao 33 c (zaa (zad 0) (zaa (zad 1) (zaa (zad 2) zaj))))) (zaf (zbc (zhm (zau (za9 .eq (zad 6) (gI 0))) (zau (za9 .ne (zad 4) (zbd false zaj)))) (zaf (za6 (.one 7) (zaq false .add (zct false false true (za4 (zad 4) (zao 31 c (zaa (zad 0) (zaa (zbh .len (zaa (zad 4) zaj)) zaj)))) gN (zfn (gI 1))) (zc4 (zaa (za4 (zad 7) (zfn (gI 1))) zaj)))) zak) zak) (zaf (znh (zad 4) (zad 7)) zak))))) (zaf (zbb (zc4 (zaa (zad 1) (zaa (zad 2) (zaa (zbh .tuple (zaa (zad 4) zaj)) zaj))))) zak))))
def zhi (c:Call):GS:=zaf (za6 (.one 3) (zao 31 c (zaa (zad 0) (zaa (gI 4) zaj)))) (zaf (za6 (.one 4) (ze0 (zau (za9 .eq (zad 3) (gI 0))) (zad 2) (zao 31 c (zaa (zad 0) (zaa (zaq false .add (zad 2) (gI 1)) zaj))))) (zaf (za6 (.one 5) (zcs false 1 (.one 0) (zha (zad 4)) (zc5 (zao 31 c (zaa (zad 1) (zaa (zbh .len (zaa (za4 (zad 2) (gI 2)) zaj)) zaj)))))) (zaf (zbc (zau (za9 .eq (zad 3) (gI 1))) (zaf (za6 (.one 5) (zct false false true (zaq false .mul (zct false false true (zad 5) gN (gI 2)) (zad 4)) gN (zad 4))) zak) zak) (zaf (zbb (zad 5)) zak))))
def zc6 (c:Call):GS:=zaf (zbc (zau (za9 .isN (zad 1) gN)) (zaf (zbb (za9 .isN (zad 0) gN)) zak) zak) (zaf (zbc (tOr (zau (zcb .bool (zad 1))) (zau (zcb .bool (zad 0)))) (zaf (zbb (zeh (zcb .bool (zad 1)) (zeh (zcb .bool (zad 0)) (za9 .eq (zad 0) (zad 1))))) zak) zak) (zaf (zbc (zau (zcb .int (zad 1))) (zaf (zbb (zeh (zcb .int (zad 0)) (za9 .eq (zad 0) (zad 1)))) zak) zak) (zaf (zbc (zau (zcb .str (zad 1))) (zaf (zbb (zeh (zcb .str (zad 0)) (za9 .eq (zad 0) (zad 1)))) zak) zak) (zaf (zbc (tOr (zau (za9 .ne (zcb .tuple (zad 1)) (zcb .tuple (zad 0)))) (zau (za9 .ne (zcb .list (zad 1)) (zcb .list (zad 0))))) rF zak) (zaf (zbc (zau (za9 .ne (zbh .len (zaa (zad 0) zaj)) (zbh .len (zaa (zad 1) zaj)))) rF zak) (zaf (zbb (za9 .notin gFf (zcs false 2 (.tup [0,1]) (zmo (zad 0) (zad 1)) (zc5 (zao 40 c (zaa (zad 0) (zaa (zad 1) zaj))))))) zak))))))
def zdh (c:Call):GS:=zaf (zbb (zbh .sum (zaa (zcs false 1 (.one 0) (zf7 (zad 1)) (zc5 (za4 (za4 (za4 (zad 1) (gI 2)) (zad 0)) (zfn (gI 1))))) zaj))) zak
def zed (c:Call):GS:=zaf (za6 (.one 2) (gS " !\"#$&'()*+,-./0123456789:;<=>?@ABCDEFGHIJKLMNOPQRSTUVWXYZ[\\]^_`")) (zaf (za6 (.one 2) (zaq false .add (zad 2) (gS "abcdefghijklmnopqrstuvwxyz{|}~\t\n"))) (zaf (za6 (.one 3) (zcs false 1 (.one 0) (zot (zad 2)) (gIf (zau (za9 .notin (zad 0) (zad 2))) (zc5 (zad 0))))) (zaf (zbb (za4 (zad 3) (zao 31 c (zaa (zad 0) (zaa (zbh .len (zaa (zad 3) zaj)) zaj))))) zak)))
def zef (c:Call):GS:=zaf (zbb (zao 64 c (zaa (zad 0) (zaa (gS "") zaj)))) zak
def ze6 (c:Call):GS:=zaf (za6 (.one 2) (zao 31 c (zaa (zad 0) (zaa (zaq false .add (zbh .len (zaa (zad 1) zaj)) (gI 1)) zaj)))) (zaf (zbb (zaq false .add (zaq false .add (zmp false true (zad 1) gN (zad 2)) (zao 65 c (zaa (zad 0) zaj))) (zmp true false (zad 1) (zaq false .add (zad 2) (zao 31 c (zaa (zad 0) (zaa (gI 2) zaj)))) gN))) zak)
def zhj (c:Call):GS:=zaf (zbb (zeh (zcb .int (zad 0)) (gNot (zcb .bool (zad 0))))) zak
def zjt (c:Call):GS:=zaf (zbb (zeh (zao 67 c (zaa (zad 0) zaj)) (zkb .le .le (zad 1) (zad 0) (zad 2)))) zak
def zf1 (c:Call):GS:=zaf (zbc (tOr (zb7 (zau (zcb .tuple (zad 0)))) (zau (za9 .ne (zbh .len (zaa (zad 0) zaj)) (zad 1)))) rF zak) (zaf (zbb (za9 .eq (zcs false 1 (.one 0) (zf7 (zad 0)) (gIf (zb7 (zau (zao 68 c (zaa (zad 0) (zaa (zad 3) (zaa (zad 4) zaj)))))) (zc5 (gI 1)))) (zbd false zaj))) zak)
def zbm (c:Call):GS:=zaf (zbc (tOr (zb7 (zau (zcb .tuple (zad 0)))) (zau (za9 .notin (zbh .len (zaa (zad 0) zaj)) (zc4 (zaa (gI 4) (zaa (gI 5) zaj)))))) rF zak) (zaf (zbc (tOr (zau (za9 .notin (za4 (zad 0) (gI 0)) (zc4 (zaa (gS "turn") (zaa (gS "join") (zaa (gS "move") (zaa (gS "put") zaj))))))) (zau (za9 .ne (za9 .eq (zbh .len (zaa (zad 0) zaj)) (gI 5)) (za9 .eq (za4 (zad 0) (gI 0)) (gS "join"))))) rF zak) (zaf (zbc (tOr (zb7 (zau (zao 69 c (zaa (zc4 (zaa (za4 (zad 0) (gI 1)) zaj)) (zaa (gI 1) (zaa (gI 0) (zaa (zaq false .sub (zad 2) (gI 1)) zaj))))))) (zb7 (zau (zao 68 c (zaa (za4 (zad 0) (zfn (gI 1))) (zaa (gI 1) (zaa (gI 3) zaj))))))) rF zak) (zaf (zbc (zau (za9 .eq (za4 (zad 0) (gI 0)) (gS "turn"))) (zaf (zbb (zao 69 c (zaa (za4 (zad 0) (gI 2)) (zaa (zad 1) (zaa (gI 0) (zaa (zaq false .sub (zad 1) (gI 1)) zaj)))))) zak) zak) (zaf (zbc (zau (za9 .eq (za4 (zad 0) (gI 0)) (gS "put"))) (zaf (zbb (zao 68 c (zaa (za4 (zad 0) (gI 2)) (zaa (gI 0) (zaa (zaq false .sub (zad 1) (gI 1)) zaj))))) zak) zak) (zaf (zbc (zb7 (zau (zao 68 c (zaa (za4 (zad 0) (gI 2)) (zaa (gI 0) (zaa (zaq false .sub (zad 2) (gI 1)) zaj)))))) rF zak) (zaf (zbc (zau (za9 .eq (za4 (zad 0) (gI 0)) (gS "move"))) (zaf (zbb gTt) zak) zak) (zaf (zbc (tOr (zb7 (zau (zcb .tuple (za4 (zad 0) (gI 3))))) (zau (za9 .ne (zbh .len (zaa (za4 (zad 0) (gI 3)) zaj)) (zad 1)))) rF zak) (zaf (zbb (za9 .eq (zcs false 1 (.one 0) (zf7 (za4 (zad 0) (gI 3))) (gIf (zb7 (zau (zao 69 c (zaa (zad 0) (zaa (zad 2) (zaa (gI 0) (zaa (zaq false .sub (zad 2) (gI 1)) zaj))))))) (zc5 (gI 1)))) (zbd false zaj))) zak))))))))
def zdx (c:Call):GS:=zaf (zbc (tOr (zb7 (zau (zcb .tuple (zad 0)))) (tOr (zau (za9 .ne (zbh .len (zaa (zad 0) zaj)) (gI 3))) (zb7 (zau (zao 68 c (zaa (za4 (zad 0) (gI 0)) (zaa (gI 2) (zaa (gI 4) zaj)))))))) rF zak) (zaf (zbc (tOr (zb7 (zau (zao 68 c (zaa (za4 (zad 0) (gI 1)) (zaa (gI 1) (zaa (gI 2) zaj)))))) (tOr (zb7 (zau (zcb .tuple (za4 (zad 0) (gI 2))))) (zb7 (zau (zkb .le .le (gI 1) (zbh .len (zaa (za4 (zad 0) (gI 2)) zaj)) (gI 6)))))) rF zak) (zaf (zbb (za9 .eq (zcs false 1 (.one 0) (zf7 (za4 (zad 0) (gI 2))) (gIf (zb7 (zau (zao 70 c (zaa (zad 0) (zaa (za4 (zad 1) (gI 0)) (zaa (za4 (zad 1) (gI 1)) zaj)))))) (zc5 (gI 1)))) (zbd false zaj))) zak))
def zke (c:Call):GS:=zaf (za6 (.one 3) (zao 31 c (zaa (zad 0) (zaa (gI 8) zaj)))) (zaf (za6 (.one 4) (zao 31 c (zaa (zad 0) (zaa (gI 20) zaj)))) (zaf (za6 (.one 5) (zaq false .sub (zao 31 c (zaa (zad 0) (zaa (gI 9) zaj))) (gI 2))) (zaf (zbc (zhm (zau (zcb .tuple (zad 1))) (zhm (zau (za9 .ne (zad 1) (zc4 zaj))) (zhm (zau (za9 .gt (zad 2) (gI 0))) (zau (za9 .gt (zad 4) (gI 4)))))) (zaf (za6 (.one 6) (zao 31 c (zaa (zad 0) (zaa (zbh .len (zaa (zad 1) zaj)) zaj)))) (zaf (zbb (zaq false .add (zaq false .add (zct false false true (zad 1) gN (zad 6)) (zc4 (zaa (zao 72 c (zaa (zad 0) (zaa (za4 (zad 1) (zad 6)) (zaa (zaq false .sub (zad 2) (gI 1)) zaj)))) zaj))) (zct false true false (zad 1) (zaq false .add (zad 6) (gI 1)) gN))) zak)) zak) (zaf (za6 (.one 7) (zbd false (zaa gN (zaa gTt (zaa gFf (zaa (gS "") (zaa (gS "turn") (zaa (gS "join") (zaa (gS "move") (zaa (gS "put") (zaa (gS "Turn") (zaa (zc4 zaj) (zaa (zbd false zaj) (zaa (zaq false .pow (gI 10) (gI 20)) (zaa (zfn (gI 1)) (zaa (gI 0) zaj)))))))))))))))) (zaf (za6 (.one 7) (zaq false .add (zad 7) (zbd false (zaa (gI 1) (zaa (gI 4) (zaa (zc4 (zaa (gI 0) zaj)) (zaa (zbd false (zaa (gI 0) zaj)) (zaa (gS "0") (zaa (gI 7) zaj))))))))) (zaf (zbc (zau (zcb .tuple (zad 1))) (zaf (za6 (.one 8) (zbd false (zaa (zbh (.list false) (zaa (zad 1) zaj)) (zaa (zaq false .add (zad 1) (zct false false true (zad 1) gN (gI 1))) (zaa (zct false false true (zad 1) gN (zfn (gI 1))) (zaa (gRev false (zad 1)) (zaa (zaq false .add (zad 1) (zc4 (zaa (zad 5) zaj))) (zaa (zct false true false (zad 1) (gI 1) gN) (zaa (zc4 (zaa (zad 1) zaj)) zaj))))))))) (zaf (zbb (za4 (zaq false .add (zad 8) (zbd false (zaa (za4 (zad 7) (zad 4)) zaj))) (zad 3))) zak)) zak) (zaf (zbc (zau (zao 67 c (zaa (zad 1) zaj))) (zaf (zbb (za4 (zbd false (zaa (zaq false .add (zad 1) (gI 1)) (zaa (zaq false .sub (zad 1) (gI 1)) (zaa (zaq false .sub (gI 0) (zad 1)) (zaa (zad 5) (zaa (zad 5) (zaa (za9 .eq (zad 1) (gI 1)) (zaa (zaq false .sub (gI 3) (zad 1)) (zaa (za4 (zad 7) (zad 4)) zaj))))))))) (zad 3))) zak) zak) (zaf (zbc (zhm (zau (zcb .str (zad 1))) (zau (za9 .lt (zad 3) (gI 3)))) (zaf (zbb (zao 66 c (zaa (zad 0) (zaa (zad 1) zaj)))) zak) zak) (zaf (zbb (za4 (zad 7) (zad 4))) zak)))))))))
def zd0 (c:Call):GS:=zaf (za6 (.one 1) (zbd false (zaa (zcz (some 0) (zad 0)) (zaa (zcz (some 1) (zad 0)) (zaa (zcz (some 2) (zad 0)) zaj))))) (zaf (za6 (.one 1) (zaq false .add (zad 1) (zbd false (zaa (zcz (some 3) (zad 0)) (zaa (zcz (some 4) (zad 0)) (zaa (zcz (some 5) (zad 0)) zaj)))))) (zaf (za6 (.one 1) (zaq false .add (zad 1) (zbd false (zaa (zcz (some 6) (zad 0)) (zaa (zcz (some 7) (zad 0)) (zaa (zcz (some 8) (zad 0)) zaj)))))) (zaf (za6 (.one 1) (zaq false .add (zad 1) (zbd false (zaa (zcz (some 9) (zad 0)) (zaa (zcz (some 10) (zad 0)) (zaa (zcz (some 11) (zad 0)) zaj)))))) (zaf (za6 (.one 1) (zaq false .add (zad 1) (zbd false (zaa (zcz (some 12) (zad 0)) (zaa (zcz (some 13) (zad 0)) zaj))))) (zaf (zbc (tOr (zau (za9 .ne (zwm (zad 1)) (gI 1))) (tOr (zb7 (zau (zcz none (zad 0)))) (zb7 (zau (zcz none (zad 0)))))) (zaf (zbb (zbd false (zaa (gS "odd") zaj))) zak) zak) (zaf (zbc (zau (za4 (zad 1) (gI 0))) (zaf (zbb (zbd false (zaa (gS "row") (zaa (zjn "place" (zad 0)) zaj)))) zak) zak) (zaf (zbc (zau (za4 (zad 1) (gI 1))) (zaf (zbb (zbd false (zaa (gS "rule") (zaa (zjn "number" (zad 0)) zaj)))) zak) zak) (zaf (zbc (zau (za4 (zad 1) (gI 2))) (zaf (zbb (zbd false (zaa (gS "step") (zaa (zjn "place" (zad 0)) zaj)))) zak) zak) (zaf (za6 (.one 2) (zbd false (zaa (gS "machine") (zaa (gS "long") (zaa (gS "word") (zaa (gS "work") (zaa (gS "bound") (zaa (gS "many") (zaa (gS "place") (zaa (gS "deed") (zaa (gS "nothing") (zaa (gS "text") (zaa (gS "line") zaj))))))))))))) (zaf (zbb (zbd false (zaa (za4 (zad 2) (zaq false .sub (zwl (zad 1)) (gI 3))) zaj))) zak))))))))))
def zjs (c:Call):GS:=zaf (zbb (zbh .sum (zaa (zcs false 1 (.one 0) (zf7 (zad 1)) (zc5 (za4 (za4 (za4 (zad 1) (gI 2)) (zad 0)) (zfn (gI 1))))) zaj))) zak
def zdz (c:Call):GS:=zaf (zbc (zb7 (zau (zao 71 c (zaa (zad 0) zaj)))) (zaf (zbb (zbd false (zaa (gS "machine") zaj))) zak) zak) (zaf (zbc (zb7 (zau (zcb .list (zad 1)))) (zaf (zbb (zbd false (zaa (gS "row") (zaa (gI 0) zaj)))) zak) zak) (zaf (zik (.tup [2,3]) (zlk (zad 1)) (zaf (zbc (zb7 (zau (zao 68 c (zaa (zad 3) (zaa (gI 0) (zaa (zaq false .sub (zbh .len (zaa (za4 (zad 0) (gI 2)) zaj)) (gI 1)) zaj)))))) (zaf (zbb (zbd false (zaa (gS "row") (zaa (zad 2) zaj)))) zak) zak) zak)) (zaf (zbb (ze0 (zau (za9 .gt (zbh .len (zaa (zad 1) zaj)) (gI 40))) (zbd false (zaa (gS "long") zaj)) gN)) zak)))
def zda (c:Call):GS:=zaf (za6 (.one 3) gN) (zaf (za6 (.one 4) gN) (zaf (sTry (zaf (zbc (zau (za9 .eq (zad 0) (gI 0))) (zaf (zla (.one 4) (zga 18 c (zaa (zad 1) (zaa (zad 2) zaj)))) zak) (zaf (zla (.one 4) (zga 19 c (zaa (zad 1) (zaa (zad 2) zaj)))) zak)) zak) 5 (zaf (za6 (.one 3) (zad 5)) zak)) (zaf (zbb (ze0 (zau (za9 .isN (zad 3) gN)) (zbd false (zaa (zad 4) zaj)) (zao 75 c (zaa (zad 3) zaj)))) zak)))
def zee (c:Call):GS:=zaf (za6 (.one 2) (zbd false (zaa (zfn (gI 1)) (zaa (zbh .len (zaa (za4 (zad 1) (gI 2)) zaj)) (zaa (zaq false .add (zbh .len (zaa (za4 (zad 1) (gI 2)) zaj)) (gI 9)) (zaa (zaq false .pow (gI 10) (gI 20)) (zaa gTt (zaa gFf (zaa gN (zaa (gS "0") (zaa (zbd false (zaa (gI 0) zaj)) (zaa (zc4 (zaa (gI 0) zaj)) (zaa (zbd false zaj) (zaa (gI 7) zaj)))))))))))))) (zaf (za6 (.one 3) (zao 31 c (zaa (zad 0) (zaa (gI 12) zaj)))) (zaf (za6 (.one 4) (zao 31 c (zaa (zad 0) (zaa (gI 3) zaj)))) (zaf (za6 (.one 5) (zao 35 c (zaa (zad 0) (zaa (zad 1) (zaa (gI 40) zaj))))) (zaf (za6 (.one 6) (zao 31 c (zaa (zad 0) (zaa (zaq false .add (zbh .len (zaa (zad 5) zaj)) (gI 1)) zaj)))) (zaf (za6 (.one 7) (zaq false .add (zaq false .add (zct false false true (zad 5) gN (zad 6)) (zbd false (zaa (za4 (zad 2) (zad 3)) zaj))) (zct false true false (zad 5) (zad 6) gN))) (zaf (zbc (zau (za9 .eq (zad 4) (gI 1))) (zaf (za6 (.one 6) (zao 31 c (zaa (zad 0) (zaa (zaq false .add (zbh .len (zaa (zad 7) zaj)) (gI 1)) zaj)))) (zaf (za6 (.one 7) (zaq false .add (zaq false .add (zct false false true (zad 7) gN (zad 6)) (zbd false (zaa (za4 (zad 2) (zao 31 c (zaa (zad 0) (zaa (gI 12) zaj)))) zaj))) (zct false true false (zad 7) (zad 6) gN))) zak)) zak) (zaf (zbb (zbd false (zaa (zad 5) (zaa (zad 7) (zaa (zct false false true (zaq false .add (zaq false .add (zad 7) (zad 5)) (zad 5)) gN (gI 45)) (zaa (zbh .tuple (zaa (zad 5) zaj)) (zaa (zct false false true (zaq false .add (zad 5) (zaq false .mul (zbd false (zaa (gI 0) zaj)) (gI 40))) gN (gI 40)) (zaa (zct false false true (zaq false .add (zad 5) (zaq false .mul (zbd false (zaa (gI 0) zaj)) (gI 41))) gN (gI 41)) zaj)))))))) zak)))))))
def zku (c:Call):GS:=zaf (za6 (.one 1) (zao 29 c (zaa (zad 0) zaj))) (zaf (zik (.one 2) (zha (gI 4)) (zaf (za6 (.one 3) (zao 34 c (zaa (zao 30 c (zaa (zad 1) zaj)) (zaa (gI 4) (zaa (gI 2) (zaa (gI 6) zaj)))))) (zaf (za6 (.one 4) (zaq false .add (zao 92 c (zaa (zad 1) (zaa (zad 3) zaj))) (zbd false (zaa gN (zaa (gI 7) (zaa (gS "0,1") (zaa (zc4 zaj) (zaa (zbd false (zaa (zbd false zaj) zaj)) (zaa (gS "") zaj))))))))) (zaf (zik (.one 5) (zf7 (zad 4)) (zaf (za6 (.one 6) (zis (zaa (zad 5) zaj))) (zaf (za6 (.one 7) (zao 90 c (zaa (zad 3) (zaa (zad 5) zaj)))) (zaf (zbc (zb7 (zau (zao 40 c (zaa (zao 91 c (zaa (gI 0) (zaa (zad 3) (zaa (zad 5) zaj)))) (zaa (ze0 (zau (za9 .isN (zad 7) gN)) (zbd false (zaa gN zaj)) (zad 7)) zaj))))) rF zak) (zaf (zbc (zb7 (zau (zao 40 c (zaa (zao 91 c (zaa (gI 1) (zaa (zad 3) (zaa (zad 5) zaj)))) (zaa (ze0 (zau (za9 .isN (zad 7) gN)) (zbd false (zaa (zao 89 c (zaa (zad 3) (zaa (zad 5) zaj))) zaj)) (zad 7)) zaj))))) rF zak) (zaf (zbc (zau (za9 .ne (zis (zaa (zad 5) zaj)) (zad 6))) rF zak) zak)))))) (zaf (za6 (.one 8) (zao 72 c (zaa (zad 1) (zaa (zad 3) (zaa (gI 5) zaj))))) (zaf (zbc (zb7 (zau (zao 71 c (zaa (zad 8) zaj)))) (zaf (zik (.one 5) (zf7 (zbd false (zaa (zbd false zaj) (zaa gN (zaa (zbd false (zaa (gI 9) zaj)) (zaa (zaq false .mul (zbd false (zaa (gI 0) zaj)) (gI 41)) zaj)))))) (zaf (zbc (tOr (zau (za9 .ne (zao 91 c (zaa (gI 0) (zaa (zad 8) (zaa (zad 5) zaj)))) (zbd false (zaa (gS "machine") zaj)))) (zau (za9 .ne (zao 91 c (zaa (gI 1) (zaa (zad 8) (zaa (zad 5) zaj)))) (zbd false (zaa (gS "machine") zaj))))) rF zak) zak)) zak) zak) zak)))))) (zaf (zbb gTt) zak))
end LD
namespace LD
open PySem
@[simp] theorem zby {α β:Type}{r:Res α}{f:α->Mem->Res β}{k:β->Mem->Prop}:okE (r.bind f) k↔okE r fun a M=>okE (f a M) k:=by cases r<;>rfl
@[simp] theorem zjw {α:Type}{a:α}{M:Mem}{k:α->Mem->Prop}:okE (.ok a M) k↔k a M:=Iff.rfl
@[simp] theorem ok_bad {α:Type}{k:α->Mem->Prop}:okE (.bad:Res α) k↔False:=Iff.rfl
@[simp] theorem zl3 {α:Type}{M:Mem}{o:Option α}{k:α->Mem->Prop}:okE (ofO M o) k↔∃a,o=some a/\k a M:=by cases o<;>simp [ofO]
theorem zok {α:Type}{r:Res α}{k:α->Mem->Prop}:okE r k↔∃a M,r=.ok a M/\k a M:=by
 cases r with
 |ok a M=>exact ⟨fun h=>⟨a,M,rfl,h⟩,fun ⟨_,_,e,h⟩=>by cases e;exact h⟩
 |err=>simp [okE]
 |bad=>simp [okE]
theorem zp1 {x y:D}{M:Mem}{v:Bool}(px:zas 64 (view M x)=true)(py:zas 64 (view M y)=true)(h:zbr (view M x) (view M y)=v):zb2 .eq x y M=some v:=by
 have e:eqD (view M x) (view M y)=some v:=by unfold eqD;rw [px,py,h];simp
 show eqM M x y=_
 unfold eqM;rw [e]
theorem zmy {x y:D}{M:Mem}{v:Bool}(px:zas 64 (view M x)=true)(py:zas 64 (view M y)=true)(h:zbr (view M x) (view M y)=v):zb2 .ne x y M=some (!v):=by
 show (zb2 .eq x y M).map (!·)=_
 rw [zp1 px py h];rfl
section
variable {Z:Env}{M:Mem}{a b d lo hi:GE}{s:GA}{t u:GT}{k:D->Mem->Prop}{c:Call}
@[simp] theorem zbp {i:Nat}:okE (zad i Z M) k↔∃d,Z[i]?.getD none=some d/\k d M:=by simp [zad]
@[simp] theorem e_c {d:D}:okE (gC d Z M) k↔k d M:=Iff.rfl
@[simp] theorem ze1 {m:Bool}{o:Bin}:okE (zaq m o a b Z M) k↔okE (a Z M) fun x M=>okE (b Z M) fun y M=>okE (zei m o x y M) k:=by simp [zaq]
@[simp] theorem zh2 {o:Cmp}:okE (za9 o a b Z M) k↔okE (a Z M) fun x M=>okE (b Z M) fun y M=>∃v,zb2 o x y M=some v/\k (.bl v) M:=by simp [za9]
@[simp] theorem e_chn {o o':Cmp}:okE (zkb o o' a b d Z M) k↔okE (a Z M) fun x M=>okE (b Z M) fun y M=>∃v,zb2 o x y M=some v/\if v=true then okE (d Z M) fun z M=>∃v,zb2 o' y z M=some v/\k (.bl v) M else k (.bl false) M:=by
 simp only [zkb,zby,zl3]
 refine iff_of_eq ?_
 congr 1;funext x M;congr 1;funext y M;refine propext (exists_congr fun v=>and_congr_right fun _=>?_)
 cases v<;>simp
@[simp] theorem e_neg:okE (zfn a Z M) k↔okE (a Z M) fun x M=>∃i,x=.int i/\k (.int (-i)) M:=by
 simp only [zfn,zby];refine iff_of_eq ?_;congr 1;funext x M;cases x<;>simp
@[simp] theorem e_and:okE (zeh a b Z M) k↔okE (a Z M) fun x M=>∃v,x=.bl v/\if v=true then okE (b Z M) k else k (.bl false) M:=by
 simp only [zeh,zby];refine iff_of_eq ?_;congr 1;funext x M;cases x<;>simp
 rename_i v;cases v<;>simp
@[simp] theorem e_ite:okE (ze0 t a b Z M) k↔okE (t Z M) fun v M=>if v=true then okE (a Z M) k else okE (b Z M) k:=by
 simp only [ze0,zby];refine iff_of_eq ?_;congr 1;funext v M;cases v<;>simp
@[simp] theorem zj1:okE (za4 a b Z M) k↔okE (a Z M) fun x M=>okE (b Z M) fun y M=>∃d,zf6 x y M=some d/\k d M:=by simp [za4]
@[simp] theorem zmt {m hl hh:Bool}:okE (zct m hl hh a lo hi Z M) k↔okE (a Z M) fun x M=>okE (lo Z M) fun l M=>okE (hi Z M) fun h M=>zci hl l=true/\zci hh h=true/\okE (zew m x l h M) k:=by
 simp only [zct,zby]
 refine iff_of_eq ?_
 congr 1;funext x M;congr 1;funext l M;congr 1;funext h M
 cases zci hl l<;>cases zci hh h<;>simp
@[simp] theorem zbx {k:List D->Mem->Prop}:okE (zaj Z M) k↔k [] M:=Iff.rfl
@[simp] theorem zbq {k:List D->Mem->Prop}:okE (zaa a s Z M) k↔okE (a Z M) fun x M=>okE (s Z M) fun xs M=>k (x::xs) M:=by simp [zaa]
@[simp] theorem ziu:okE (zc4 s Z M) k↔okE (s Z M) fun xs M=>xs.length<=sz/\k (.tup xs) M:=by
 simp only [zc4,zby];refine iff_of_eq ?_;congr 1;funext xs M;unfold zle;split<;>simp [*]
theorem zsy {m:Bool}{xs:List D}:okE (zb6 m xs M) k↔xs.length<=sz/\if m=true then k (.cell M.length) (M++[xs]) else k (.lst xs) M:=by
 unfold zb6;cases m<;>split<;>simp [*]
@[simp] theorem zcn {xs:List D}:okE (zb6 false xs M) k↔xs.length<=sz/\k (.lst xs) M:=by simp [zsy]
@[simp] theorem zu1 {xs:List D}:okE (zb6 true xs M) k↔xs.length<=sz/\k (.cell M.length) (M++[xs]):=by simp [zsy]
@[simp] theorem zmu {m:Bool}:okE (zbd m s Z M) k↔okE (s Z M) fun xs M=>okE (zb6 m xs M) k:=by simp [zbd]
@[simp] theorem zen {f:Nat}:okE (zao f c s Z M) k↔okE (s Z M) fun ds M=>okE (c f ds M) k:=by simp [zao]
@[simp] theorem e_callv {i:Nat}:okE (zl7 i c s Z M) k↔∃f,Z[i]?.getD none=some (.fn f)/\okE (s Z M) fun ds M=>okE (c f ds M) k:=by
 unfold zl7
 cases e:Z[i]?.getD none with
 |none=>simp
 |some d=>cases d<;>simp
@[simp] theorem zec {f:Blt}:okE (zbh f s Z M) k↔okE (s Z M) fun ds M=>okE (zff f ds M) k:=by simp [zbh]
@[simp] theorem ztt {t:Ty}:okE (zcb t a Z M) k↔okE (a Z M) fun x M=>∃v,zca t x=some v/\k (.bl v) M:=by simp [zcb]
@[simp] theorem e_dget {fs:List (Str×Nat)}:okE (zmr fs a Z M) k↔okE (a Z M) fun x M=>∃y f,x=.str y/\fs.lookup y=some f/\k (.fn f) M:=by
 simp only [zmr,zby];refine iff_of_eq ?_;congr 1;funext x M;cases x<;>simp
 exact ⟨fun ⟨_,⟨f,h,e⟩,q⟩=>⟨f,h,e ▸ q⟩,fun ⟨f,h,q⟩=>⟨_,⟨f,h,rfl⟩,q⟩⟩
@[simp] theorem e_dnot {fs:List (Str×Nat)}:okE (zmq fs a Z M) k↔okE (a Z M) fun x M=>∃y,x=.str y/\k (.bl (!(fs.lookup y).isSome)) M:=by
 simp only [zmq,zby];refine iff_of_eq ?_;congr 1;funext x M;cases x<;>simp
@[simp] theorem z4z {m:Bool}:okE (zl6 m a Z M) k↔okE (a Z M) fun x M=>∃n,x=.int n/\(-(2^62)<=n/\n<2^20)/\okE (zb6 m ((List.range n.toNat).map fun (k:Nat)=>D.int (k:Int)) M) k:=by
 simp only [zl6,zby];refine iff_of_eq ?_;congr 1;funext x M
 cases x<;>simp
 rename_i n
 split<;>simp [*]
variable {kb:Bool->Mem->Prop}
@[simp] theorem zio:okE (zau a Z M) kb↔okE (a Z M) fun x M=>∃v,zj7 M x=some v/\kb v M:=by simp [zau]
@[simp] theorem t_and:okE (zhm t u Z M) kb↔okE (t Z M) fun v M=>if v=true then okE (u Z M) kb else kb false M:=by
 simp only [zhm,zby];refine iff_of_eq ?_;congr 1;funext v M;cases v<;>simp
@[simp] theorem t_or:okE (tOr t u Z M) kb↔okE (t Z M) fun v M=>if v=true then kb true M else okE (u Z M) kb:=by
 simp only [tOr,zby];refine iff_of_eq ?_;congr 1;funext v M;cases v<;>simp
@[simp] theorem t_not:okE (zb7 t Z M) kb↔okE (t Z M) fun v M=>kb (!v) M:=by simp [zb7]
variable {kf:Fl->Mem->Prop}{sa sb:GS}
def zk0 (b:GS)(k:Fl->Mem->Prop):Fl->Mem->Prop
 |.next Z,M=>okE (b Z M) k
 |.ret d,M=>k (.ret d) M
 |.exc x Z,M=>k (.exc x Z) M
@[simp] theorem then_exc {b:GS}{x:D}:zk0 b kf (.exc x Z) M↔kf (.exc x Z) M:=Iff.rfl
@[simp] theorem zet {b:GS}:zk0 b kf (.next Z) M↔okE (b Z M) kf:=Iff.rfl
@[simp] theorem zr3 {b:GS}{d:D}:zk0 b kf (.ret d) M↔kf (.ret d) M:=Iff.rfl
@[simp] theorem za5:okE (zaf sa sb Z M) kf↔okE (sa Z M) (zk0 sb kf):=by
 simp only [zaf,zby];refine iff_of_eq ?_;congr 1;funext fl M;cases fl<;>rfl
@[simp] theorem zn4:okE (zak Z M) kf↔kf (.next Z) M:=Iff.rfl
@[simp] theorem zf9 {i:Nat}:okE (za6 (.one i) a Z M) kf↔okE (a Z M) fun x M=>kf (.next (Z.set i (some x))) M:=by simp [za6,zde]
@[simp] theorem s_asgt {l:List Nat}:okE (za6 (.tup l) a Z M) kf↔okE (a Z M) fun x M=>∃ds ρ1,x=.tup ds/\zkj l ds Z=some ρ1/\kf (.next ρ1) M:=by
 simp only [za6,zby,zl3,zjw];refine iff_of_eq ?_;congr 1;funext x M;cases x<;>simp [zde]
@[simp] theorem s_put_:okE (zhr a b d Z M) kf↔okE (d Z M) fun z M=>okE (a Z M) fun x M=>okE (b Z M) fun y M=>∃j n ds i,x=.cell j/\y=.int n/\M[j]?=some ds/\ixN ds.length n=some i/\kf (.next Z) (M.set j (ds.set i z)):=by
 simp only [zhr,zby]
 refine iff_of_eq ?_
 congr 1;funext z M;congr 1;funext x M;congr 1;funext y M
 cases x with
 | cell j =>
   cases y with
   | int n =>
     cases e:M[j]? with
     |none=>simp [e]
     | some ds =>
       cases e2:ixN ds.length n with
       |none=>simp [e,e2]
       |some i=>simp [e,e2]
   |_=>simp
 |_=>simp
@[simp] theorem s_app_:okE (znh a d Z M) kf↔okE (a Z M) fun x M=>okE (d Z M) fun z M=>∃j ds,x=.cell j/\M[j]?=some ds/\ds.length<sz/\kf (.next Z) (M.set j (ds++[z])):=by
 simp only [znh,zby]
 refine iff_of_eq ?_
 congr 1;funext x M;congr 1;funext z M
 cases x<;>simp
 rename_i j
 cases e:M[j]? with
 |none=>simp
 |some ds=>by_cases h:ds.length<sz<;>simp [h]
@[simp] theorem zcy:okE (zbb a Z M) kf↔okE (a Z M) fun x M=>kf (.ret x) M:=by simp [zbb]
@[simp] theorem s_retN_:okE (sRetN Z M) kf↔kf (.ret .non) M:=Iff.rfl
@[simp] theorem s_pass_:okE (sPass Z M) kf↔kf (.next Z) M:=Iff.rfl
@[simp] theorem s_bad_:okE (sBad Z M) kf↔False:=Iff.rfl
@[simp] theorem zjd:okE (zbc t sa sb Z M) kf↔okE (t Z M) fun v M=>if v=true then okE (sa Z M) kf else okE (sb Z M) kf:=by
 simp only [zbc,zby];refine iff_of_eq ?_;congr 1;funext v M;cases v<;>simp
variable {kw:Walk->Mem->Prop}
@[simp] theorem zkh:okE (zha a Z M) kw↔okE (a Z M) fun x M=>∃n,x=.int n/\(-(2^62)<=n/\n<2^62)/\kw (fun _=>some ((List.range n.toNat).map fun (k:Nat)=>D.int (k:Int))) M:=by
 simp only [zha,zby];refine iff_of_eq ?_;congr 1;funext x M;cases x<;>simp
 rename_i n
 split<;>simp [*]
@[simp] theorem w_seq:okE (zf7 a Z M) kw↔okE (a Z M) fun x M=>zd5 x=true/\kw (fun M=>zcp M x) M:=by
 simp only [zf7,zby];refine iff_of_eq ?_;congr 1;funext x M;cases x<;>simp [zd5]<;>rfl
@[simp] theorem zlr:okE (zlk a Z M) kw↔okE (a Z M) fun x M=>(zd5 x&&zh1 x)=true/\kw (fun M=>(zcp M x).map (zdd 0)) M:=by
 simp only [zlk,zby];refine iff_of_eq ?_;congr 1;funext x M;cases x<;>simp [zd5,zh1]<;>rfl
@[simp] theorem w_zip2:okE (zmo a b Z M) kw↔okE (a Z M) fun x M=>okE (b Z M) fun y M=>(zd5 x&&zd5 y)=true/\kw (zmf x y) M:=by
 simp only [zmo,zby];refine iff_of_eq ?_;congr 1;funext x M;congr 1;funext y M;split<;>simp [*]
def zhb (k:D->Mem->Prop):Fl->Mem->Prop
 |.ret d,M=>k d M
 |.next _,M=>k .non M
 |.exc _ _,_=>False
@[simp] theorem fin_ret {d:D}:zhb k (.ret d) M↔k d M:=Iff.rfl
@[simp] theorem fin_next:zhb k (.next Z) M↔k .non M:=Iff.rfl
theorem zay {P:Nat->Option Df}{n f:Nat}{d:Df}{ds:List D}(e:P f=some d)(hl:ds.length=d.params)(h:okE (d.body (zal P n) (ds.map some++List.replicate (d.slots-ds.length) none) M) (zhb k)):okE (zal P (n+1) f ds M) k:=by
 show okE (match P f with|none=>Res.bad|some d=>zfl (zal P n) d ds M) k
 rw [e]
 show okE (zfl (zal P n) d ds M) k
 unfold zfl
 rw [if_pos hl]
 revert h
 cases d.body (zal P n) (ds.map some++List.replicate (d.slots-ds.length) none) M with
 |ok fl M=>cases fl<;>exact id
 |err=>exact id
 |bad=>exact id
@[simp] theorem okX_ok {α:Type}{a:α}{k:α->Mem->Prop}{kx:D->Mem->Prop}:okX (.ok a M) k kx↔k a M:=Iff.rfl
@[simp] theorem okX_err {α:Type}{x:D}{k:α->Mem->Prop}{kx:D->Mem->Prop}:okX (.err x M:Res α) k kx↔kx x M:=Iff.rfl
def finX (k kx:D->Mem->Prop):Fl->Mem->Prop
 |.ret d,M=>k d M
 |.next _,M=>k .non M
 |.exc x _,M=>kx x M
theorem zgr {P:Nat->Option Df}{n f:Nat}{d:Df}{ds:List D}{kx:D->Mem->Prop}(e:P f=some d)(hl:ds.length=d.params)(h:okE (d.body (zal P n) (ds.map some++List.replicate (d.slots-ds.length) none) M) (finX k kx)):okX (zal P (n+1) f ds M) k kx:=by
 show okX (match P f with|none=>Res.bad|some d=>zfl (zal P n) d ds M) k kx
 rw [e]
 show okX (zfl (zal P n) d ds M) k kx
 unfold zfl
 rw [if_pos hl]
 revert h
 cases d.body (zal P n) (ds.map some++List.replicate (d.slots-ds.length) none) M with
 |ok fl M=>cases fl<;>exact id
 |err=>exact id
 |bad=>exact id
theorem zfo {α:Type}{r:Res α}{x:D}{M':Mem}(h:okX r (fun _ _=>False) fun y M=>y=x/\M=M'):r=.err x M':=by
 cases r with
 |ok=>exact h.elim
 |err y M=>obtain ⟨rfl,rfl⟩:=h;rfl
 |bad=>exact h.elim
@[simp] theorem fx_ret {d:D}{kx:D->Mem->Prop}:finX k kx (.ret d) M↔k d M:=Iff.rfl
@[simp] theorem fx_next {kx:D->Mem->Prop}:finX k kx (.next Z) M↔k .non M:=Iff.rfl
@[simp] theorem fx_exc {x:D}{kx:D->Mem->Prop}:finX k kx (.exc x Z) M↔kx x M:=Iff.rfl
@[simp] theorem ze9 {f:Nat}{kx:D->Mem->Prop}:okX (zga f c s Z M) k kx↔okE (s Z M) fun ds M=>okX (c f ds M) k kx:=by
 unfold zga
 cases s Z M<;>rfl
@[simp] theorem zkl:okE (zly a Z M) kf↔okX (a Z M) (fun _ M=>kf (.next Z) M) (fun x M=>kf (.exc x Z) M):=by
 unfold zly
 cases a Z M<;>rfl
@[simp] theorem zmj {i:Nat}:okE (zla (.one i) a Z M) kf↔okX (a Z M) (fun x M=>kf (.next (Z.set i (some x))) M) (fun x M=>kf (.exc x Z) M):=by
 unfold zla
 cases a Z M<;>rfl
@[simp] theorem s_raise_ {i:Nat}:okE (zje i s Z M) kf↔okE (s Z M) fun ds M=>ds.length<=sz/\kf (.exc (.exc i none) Z) M:=by
 unfold zje
 cases s Z M with
 |ok ds M1=>by_cases h:ds.length<=sz<;>simp [h]
 |err=>exact Iff.rfl
 |bad=>exact Iff.rfl
def endK (i:Nat)(kf:Fl->Mem->Prop):Fl->Mem->Prop
 |.next Z,M=>kf (.next (Z.set i none)) M
 |.ret d,M=>kf (.ret d) M
 |.exc _ _,_=>False
def tryK (i:Nat)(h:GS)(kf:Fl->Mem->Prop):Fl->Mem->Prop
 |.exc x Z,M=>okE (h (Z.set i (some x)) M) (endK i kf)
 |fl,M=>kf fl M
@[simp] theorem zxr {i:Nat}{h:GS}:okE (sTry sa i h Z M) kf↔okE (sa Z M) (tryK i h kf):=by
 simp only [sTry,zby];refine iff_of_eq ?_;congr 1;funext fl M
 cases fl with
 | exc x Z =>
   show okE ((h (Z.set i (some x)) M).bind (xEnd i)) kf=okE (h (Z.set i (some x)) M) (endK i kf)
   simp only [zby];congr 1;funext fl M;cases fl<;>rfl
 |next Z=>rfl
 |ret d=>rfl
theorem zwb {α:Type}(f:α->D->Mem->Res α)(ds:List D):∀(m i:Nat) (a:α) (M:Mem),ds.length-i<m->i<=ds.length->zey f (fun _=>some ds) m i a M=eachR f (ds.drop i) a M
 |0,i,a,M,h,_=>absurd h (Nat.not_lt_zero _)
 | m + 1, i, a, M, h, hi => by
   show (match ds[i]? with|none=>Res.ok a M|some d=>(f a d M).bind (zey f (fun _=>some ds) m (i+1)))=_
   by_cases hlt:i<ds.length
   ·rw [List.drop_eq_getElem_cons hlt,List.getElem?_eq_getElem hlt]
    show (f a ds[i] M).bind _=(f a ds[i] M).bind _
    congr 1
    funext a M
    exact zwb f ds m (i+1) a M (by omega) hlt
   ·have e:i=ds.length:=by omega
    subst e
    rw [List.getElem?_eq_none (tqg _),List.drop_length]
    rfl
theorem zi4 {α:Type}{f:α->D->Mem->Res α}{w:Walk}{ds:List D}{a:α}{k:α->Mem->Prop}(I:Nat->α->Mem->Prop)(hw:∀i a M,I i a M->w M=some ds)(h0:I 0 a M)
 (hs:∀i d a M,ds[i]?=some d->I i a M->okE (f a d M) (I (i+1))) (hk:∀a M,I ds.length a M->k a M):okE (zej f w a M) k:=by
 have key:∀(m i:Nat) (a:α) (M:Mem),ds.length-i<m->i<=ds.length->I i a M->okE (zey f w m i a M) k:=by
  intro m
  induction m with
  |zero=>intro i a M h;exact absurd h (Nat.not_lt_zero _)
  | succ m ih =>
    intro i a M h hi hI
    show okE (match w M with|none=>Res.bad|some ds=>match ds[i]? with|none=>Res.ok a M|some d=>(f a d M).bind (zey f w m (i+1))) k
    rw [hw i a M hI]
    dsimp only
    by_cases hlt:i<ds.length
    ·rw [List.getElem?_eq_getElem hlt]
     simp only [zby]
     exact zbo (hs i ds[i] a M (List.getElem?_eq_getElem hlt) hI) fun a' M' h'=>ih (i+1) a' M' (by omega) hlt h'
    ·have e:i=ds.length:=by omega
     subst e
     rw [List.getElem?_eq_none (tqg _)]
     exact hk a M hI
 unfold zej
 rw [hw 0 a M h0]
 exact key _ 0 a M (by simp) (Nat.zero_le _) h0
theorem zgu {t:Tgt}{w:Walk}{gb:GS}{ds:List D}(I:Nat->Env->Mem->Prop)(hw:∀i Z M,I i Z M->w M=some ds)(h0:I 0 Z M)
 (hs:∀i d Z M,ds[i]?=some d->I i Z M->∃ρ1,zde t d Z=some ρ1/\okE (gb ρ1 M) fun fl M=>∃ρ',fl=.next ρ'/\I (i+1) ρ' M) (hk:∀Z M,I ds.length Z M->kf (.next Z) M):okE (zej (zgw t gb) w (.next Z) M) kf:=by
 refine zi4 (fun i fl M=>∃Z,fl=.next Z/\I i Z M) (fun i fl M ⟨Z,_,h⟩=>hw i Z M h) ⟨Z,rfl,h0⟩ ?_ ?_
 ·rintro i d fl M hd ⟨Z,rfl,hI⟩
  obtain ⟨ρ1,e,h⟩:=hs i d Z M hd hI
  simp only [zgw,zby,zl3,e]
  exact ⟨ρ1,rfl,h⟩
 ·rintro fl M ⟨Z,rfl,hI⟩
  exact hk Z M hI
@[simp] theorem zh8 {tg:Tgt}{w:GW}{gb:GS}:okE (zik tg w gb Z M) kf↔okE (w Z M) fun w M=>okE (zej (zgw tg gb) w (.next Z) M) kf:=by simp [zik]
@[simp] theorem zjq {m:Bool}{n:Nat}{tg:Tgt}{w:GW}{g:GB}:okE (zcs m n tg w g Z M) k↔okE (w Z M) fun w M=>okE (zej (zfg tg g (List.replicate n none++Z)) w [] M) fun acc M=>okE (zb6 m acc M) k:=by simp [zcs]
variable {kl:List D->Mem->Prop}
@[simp] theorem b_fin {ge:GE}{acc:List D}:okE (zc5 ge Z acc M) kl↔okE (ge Z M) fun x M=>acc.length<sz/\kl (acc++[x]) M:=by
 simp only [zc5,zby];refine iff_of_eq ?_;congr 1;funext x M;split<;>simp [*]
theorem comp_map {tg:Tgt}{w:Walk}{ge:GE}{ds:List D}{ρ0:Env}(I:Nat->List D->Mem->Prop)(hz:ds.length<=sz)(hw:∀i acc M,I i acc M->w M=some ds)(h0:I 0 [] M)
 (hs:∀i d acc M,ds[i]?=some d->acc.length=i->I i acc M->∃ρ1,zde tg d ρ0=some ρ1/\okE (ge ρ1 M) fun x M=>I (i+1) (acc++[x]) M) (hk:∀acc M,acc.length=ds.length->I ds.length acc M->kl acc M) :
 okE (zej (zfg tg (zc5 ge) ρ0) w [] M) kl:=by
 refine zi4 (fun i acc M=>acc.length=i/\I i acc M) (fun i acc M h=>hw i acc M h.2) ⟨rfl,h0⟩ ?_ (fun acc M h=>hk acc M h.1 h.2)
 rintro i d acc M hd ⟨hl,hI⟩
 obtain ⟨ρ1,e,h⟩:=hs i d acc M hd hl hI
 have hi:i<ds.length:=(List.getElem?_eq_some_iff.mp hd).1
 simp only [zfg,zby,zl3,e,b_fin]
 exact ⟨ρ1,rfl,zbo h fun x M h=>⟨by omega,by simp [hl],h⟩⟩
end
theorem zar {t:GT}{A rest:GS}{Z:Env}{M:Mem}{k:Fl->Mem->Prop}(ht:t Z M=.ok false M)(h:okE (rest Z M) k):okE (zaf (zbc t A zak) rest Z M) k:=by
 simp only [za5,zjd]
 rw [ht]
 exact h
theorem zbw {t:GT}{e:GE}{rest:GS}{Z:Env}{M:Mem}{v:D}{k:Fl->Mem->Prop}(ht:t Z M=.ok true M)(he:e Z M=.ok v M)(h:k (.ret v) M):okE (zaf (zbc t (zaf (zbb e) zak) zak) rest Z M) k:=by
 simp only [za5,zjd,zcy]
 rw [ht]
 show okE (e Z M) _
 rw [he]
 exact h
theorem zdy {e:GE}{Z:Env}{M:Mem}{v:D}{k:Fl->Mem->Prop}(he:e Z M=.ok v M)(h:k (.ret v) M):okE (zaf (zbb e) zak Z M) k:=by
 simp only [za5,zcy]
 rw [he]
 exact h
theorem zc2 {r:Res Fl}{v:D}{M:Mem}(e:r=.ok (.ret v) M):okE r (zhb fun x M'=>x=v/\M'=M):=by rw [e];exact ⟨rfl,rfl⟩
end LD
namespace LD
open PySem
structure HasM0 (P:Nat->Option Df):Prop where
 is_between:P 0=some ⟨3,3,zep⟩
 is_word:P 1=some ⟨2,2,zic⟩
 is_place:P 2=some ⟨2,2,zhf⟩
 is_cost:P 3=some ⟨1,1,zid⟩
 is_tuple_of:P 4=some ⟨2,2,ze5⟩
 is_table:P 5=some ⟨2,2,zhe⟩
 is_double_table:P 6=some ⟨2,2,zdw⟩
 is_turn:P 7=some ⟨3,6,zfp⟩
 is_join:P 8=some ⟨3,7,zfr⟩
 is_move:P 9=some ⟨3,6,zfq⟩
 is_put:P 10=some ⟨3,6,zgs⟩
 is_deed:P 11=some ⟨3,5,zfs⟩
 is_machine:P 12=some ⟨1,4,zeo⟩
 need_machine:P 13=some ⟨1,1,zc9⟩
 is_deed_number:P 16=some ⟨2,2,zd4⟩
 need_numbers:P 17=some ⟨2,4,zco⟩
 need_row:P 18=some ⟨2,2,zdo⟩
structure HasM (P:Nat->Option Df):Prop extends HasM0 P where
 turned:P 20=some ⟨2,6,z2b⟩
 joined:P 21=some ⟨2,7,z2d⟩
 moved:P 22=some ⟨2,6,z5i⟩
 put_in:P 23=some ⟨2,6,z2c⟩
 done:P 24=some ⟨2,4,b_done⟩
 all_standing:P 25=some ⟨3,5,zp2⟩
structure HasP0 (P:Nat->Option Df):Prop where
 law_spread:P 28=some ⟨2,6,zgg⟩
 law_open:P 29=some ⟨1,4,zh3⟩
 law_anew:P 30=some ⟨1,1,zh4⟩
 law_take:P 31=some ⟨2,5,zkd⟩
structure HasP (P:Nat->Option Df):Prop extends HasP0 P where
 law_tab:P 32=some ⟨2,6,zhh⟩
 law_deed:P 33=some ⟨3,7,zgb⟩
 law_machine:P 34=some ⟨4,8,zeq⟩
instance coeHasM {P:Nat->Option Df}:Coe (HasM P) (HasM0 P):=⟨HasM.toHasM0⟩
instance coeHasP {P:Nat->Option Df}:Coe (HasP P) (HasP0 P):=⟨HasP.toHasP0⟩
@[simp] theorem env_z {d:Option D}{r:Env}:(d::r)[0]?.getD none=d:=rfl
section
variable {M:Mem}{k:D->Mem->Prop}
theorem zjh {α:Type}{c:Prop}[Decidable c]{r:Res α}{k:α->Mem->Prop}:okE (if c then r else .bad) k↔c/\okE r k:=by split<;>simp [*]
@[simp] theorem zft {m:Bool}{i j:Int}:okE (zei m .add (.int i) (.int j) M) k↔k (.int (i+j)) M:=Iff.rfl
@[simp] theorem zn0 {m:Bool}{i j:Int}:okE (zei m .sub (.int i) (.int j) M) k↔k (.int (i-j)) M:=Iff.rfl
@[simp] theorem ztf {m:Bool}{i j:Int}:okE (zei m .mul (.int i) (.int j) M) k↔((-(2^64)<i/\i<2^64)\/(-(2^64)<j/\j<2^64))/\k (.int (i*j)) M:=zjh
@[simp] theorem zon {m:Bool}{i j:Int}:okE (zei m .mod (.int i) (.int j) M) k↔0<j/\k (.int (i % j)) M:=zjh
@[simp] theorem fdiv_ii {m:Bool}{i j:Int}:okE (zei m .fdiv (.int i) (.int j) M) k↔(0<j/\j<1073741824)/\k (.int (i / j)) M:=zjh
@[simp] theorem zsq {m:Bool}{i j:Int}:okE (zei m .pow (.int i) (.int j) M) k↔(0<=j/\j<=1000000/\i.natAbs<2^64)/\k (.int (i^j.toNat)) M:=zjh
@[simp] theorem zo0 {m:Bool}{x y:List D}:okE (zei m .add (.tup x) (.tup y) M) k↔(x++y).length<=sz/\k (.tup (x++y)) M:=by
 show okE (zle _ _) k↔_
 unfold zle;exact zjh
@[simp] theorem zo1 {m:Bool}{x y:List D}:okE (zei m .add (.lst x) (.lst y) M) k↔okE (zb6 m (x++y) M) k:=Iff.rfl
@[simp] theorem v_c_lt {i j:Int}:zb2 .lt (.int i) (.int j) M=some (decide (i<j)):=rfl
@[simp] theorem v_c_le {i j:Int}:zb2 .le (.int i) (.int j) M=some (decide (i<=j)):=rfl
@[simp] theorem v_c_gt {i j:Int}:zb2 .gt (.int i) (.int j) M=some (decide (j<i)):=rfl
@[simp] theorem v_c_ge {i j:Int}:zb2 .ge (.int i) (.int j) M=some (decide (j<=i)):=rfl
@[simp] theorem c_eqi {i j:Int}:zb2 .eq (.int i) (.int j) M=some (i==j):=rfl
@[simp] theorem c_nei {i j:Int}:zb2 .ne (.int i) (.int j) M=some (!(i==j)):=rfl
@[simp] theorem tru_bl {b:Bool}:zj7 M (.bl b)=some b:=rfl
@[simp] theorem tru_tup {ds:List D}:zj7 M (.tup ds)=some (!ds.isEmpty):=rfl
@[simp] theorem tru_lst {ds:List D}:zj7 M (.lst ds)=some (!ds.isEmpty):=rfl
@[simp] theorem zkr {ds:List D}:okE (zff .len [.tup ds] M) k↔k (.int ds.length) M:=Iff.rfl
@[simp] theorem z4k {ds:List D}:okE (zff .len [.lst ds] M) k↔k (.int ds.length) M:=Iff.rfl
@[simp] theorem z5l {ds:List D}:okE (zff .all [.lst ds] M) k↔∃bs,boolsOf ds=some bs/\k (.bl (bs.all id)) M:=by
 show okE (match boolsOf ds with|some bs=>_|none=>_) k↔_
 cases boolsOf ds<;>simp
@[simp] theorem sum_lst {ds:List D}:okE (zff .sum [.lst ds] M) k↔∃bs,intsOf ds=some bs/\k (.int bs.sum) M:=by
 show okE (match intsOf ds with|some bs=>_|none=>_) k↔_
 cases intsOf ds<;>simp
@[simp] theorem tuple_lst {ds:List D}:okE (zff .tuple [.lst ds] M) k↔k (.tup ds) M:=Iff.rfl
@[simp] theorem zvf {j:Nat}:okE (zff .tuple [.cell j] M) k↔∃ds,M[j]?=some ds/\k (.tup ds) M:=by
 show okE (match M[j]? with|some xs=>_|none=>_) k↔_
 cases M[j]?<;>simp
@[simp] theorem z1h {m:Bool}{ds:List D}:okE (zff (.list m) [.lst ds] M) k↔okE (zb6 m ds M) k:=Iff.rfl
@[simp] theorem zpu {ds:List D}{i:Int}:zf6 (.tup ds) (.int i) M=(ixN ds.length i).bind fun j=>ds[j]?:=rfl
@[simp] theorem zu5 {ds:List D}{i:Int}:zf6 (.lst ds) (.int i) M=(ixN ds.length i).bind fun j=>ds[j]?:=rfl
@[simp] theorem idx_cell {j:Nat}{i:Int}:zf6 (.cell j) (.int i) M=(M[j]?).bind fun ds=>(ixN ds.length i).bind fun j=>ds[j]?:=rfl
theorem zg8 {n i:Nat}(h:i<n):ixN n (i:Int)=some i:=by
 unfold ixN;rw [if_pos (Int.natCast_nonneg i),if_pos (by exact_mod_cast h)];rfl
end
theorem za2 {α:Type}{r:Res α}{d:α}{M:Mem}(h:okE r fun x M'=>x=d/\M'=M):r=.ok d M:=by
 obtain ⟨a,M',e,rfl,rfl⟩:=zok.mp h
 exact e
theorem zav {r:Res D}{d:D}{M:Mem}(h:okE r fun x M'=>x=d/\M'=M):r=.ok d M:=by
 obtain ⟨a,M',e,rfl,rfl⟩:=zok.mp h
 exact e
section
variable {P:Nat->Option Df}(h:HasM0 P){M:Mem}
include h
theorem zvl (n:Nat)(t lo hi:Int):zal P (n+1) 0 [.int t,.int lo,.int hi] M=.ok (.bl (decide (lo<=t)&&decide (t<=hi))) M:=by
 refine zav (zay h.is_between rfl ?_)
 simp [zep,zca]
 by_cases h1:lo<=t<;>simp [h1]<;>omega
end
theorem zj3 {tg:Tgt}{w:Walk}{ge:GE}{ds:List D}{ρ0:Env}{M:Mem}{kl:List D->Mem->Prop}(f:D->D)(hz:ds.length<=sz)(hw:w M=some ds)(hs:∀d∈ds,∃ρ1,zde tg d ρ0=some ρ1/\ge ρ1 M=.ok (f d) M)(hk:kl (ds.map f) M) :
 okE (zej (zfg tg (zc5 ge) ρ0) w [] M) kl:=by
 refine comp_map (fun i acc M'=>M'=M/\acc=(ds.take i).map f) hz (fun i acc M' h=>by rw [h.1];exact hw) ⟨rfl,rfl⟩ ?_ ?_
 ·rintro i d acc M' hd _ ⟨rfl,rfl⟩
  obtain ⟨ρ1,e1,e2⟩:=hs d (List.mem_of_getElem? hd)
  refine ⟨ρ1,e1,?_⟩
  rw [e2]
  refine ⟨rfl,?_⟩
  have hi:i<ds.length:=(List.getElem?_eq_some_iff.mp hd).1
  rw [List.take_succ,hd]
  simp
 ·rintro acc M' _ ⟨rfl,rfl⟩
  simpa using hk
abbrev nD (n:Nat):D:=.int (n:Int)
def zgn (l:List Nat):D:=.tup (l.map nD)
inductive zb0 where
 |turn (at_:Nat) (tab:List Nat) (cost:Nat)
 |join (at_ other:Nat) (tab:List (List Nat)) (cost:Nat)
 |move (at_ other cost:Nat)
 |put (at_ word cost:Nat)
def zb0.d:zb0->D
 |.turn a t c=>.tup [.str "turn",nD a,zgn t,nD c]
 |.join a o t c=>.tup [.str "join",nD a,nD o,.tup (t.map zgn),nD c]
 |.move a o c=>.tup [.str "move",nD a,nD o,nD c]
 |.put a w c=>.tup [.str "put",nD a,nD w,nD c]
def zb0.cost:zb0->Nat
 |.turn _ _ c=>c
 |.join _ _ _ c=>c
 |.move _ _ c=>c
 |.put _ _ c=>c
structure zcc where
 words:Nat
 places:Nat
 deeds:List zb0
def zcc.d (m:zcc):D:=.tup [nD m.words,nD m.places,.tup (m.deeds.map zb0.d)]
def ziv (w:Nat)(t:List Nat):Prop:=t.length=w/\∀x∈t,x<w
def zfv (c:Nat):Prop:=1<=c/\c<=3
def ze7 (w p:Nat):zb0->Prop
 |.turn a t c=>a<p/\ziv w t/\zfv c
 |.join a o t c=>a<p/\o<p/\(t.length=w/\∀x∈t,ziv w x)/\zfv c
 |.move a o c=>a<p/\o<p/\zfv c
 |.put a x c=>a<p/\x<w/\zfv c
structure zdf (m:zcc):Prop where
 w2:2<=m.words
 w4:m.words<=4
 p1:1<=m.places
 p2:m.places<=2
 d1:1<=m.deeds.length
 d6:m.deeds.length<=6
 ok:∀d∈m.deeds,ze7 m.words m.places d
theorem zax {n:Nat}(h:n<=100000):n<=sz:=tqh h (by decide)
theorem lkS1:zdm.lookup (Str.ofString "turn")=some 7:=by decide +kernel
theorem lkS2:zdm.lookup (Str.ofString "join")=some 8:=by decide +kernel
theorem lkS3:zdm.lookup (Str.ofString "move")=some 9:=by decide +kernel
theorem lkS4:zdm.lookup (Str.ofString "put")=some 10:=by decide +kernel
end LD
namespace LD
open PySem
section
variable {Z:Env}{M:Mem}{a b:GE}{s:GA}{k:D->Mem->Prop}{kf:Fl->Mem->Prop}{t u:GT}{A rest:GS}
theorem zcg {t rest:GS}{ρ':Env}(e:t Z M=.ok (.next ρ') M)(h:okE (rest ρ' M) kf):okE (zaf t rest Z M) kf:=by
 simp only [za5]
 rw [e]
 exact h
theorem zaw {x:D}{xs:List D}(ea:a Z M=.ok x M)(es:s Z M=.ok xs M):zaa a s Z M=.ok (x::xs) M:=by
 unfold zaa
 rw [ea]
 show (s Z M).bind _=_
 rw [es]
 rfl
theorem zkq {xs:List D}(es:s Z M=.ok xs M)(hl:xs.length<=100):zbd false s Z M=.ok (.lst xs) M:=by
 unfold zbd
 rw [es]
 show (if xs.length<=sz then (if false=true then _ else Res.ok (D.lst xs) M) else .bad)=_
 rw [if_pos (zax (by omega))]
 rfl
theorem zza {xs ys:List D}(ea:a Z M=.ok (.lst xs) M)(eb:b Z M=.ok (.lst ys) M)(hl:(xs++ys).length<=100):zaq false .add a b Z M=.ok (.lst (xs++ys)) M:=by
 unfold zaq
 rw [ea]
 show (b Z M).bind _=_
 rw [eb]
 show (if (xs++ys).length<=sz then (if false=true then _ else Res.ok (D.lst (xs++ys)) M) else .bad)=_
 rw [if_pos (zax (by omega))]
 rfl
theorem zie {i:Nat}{x:D}(e:a Z M=.ok x M):za6 (.one i) a Z M=.ok (.next (Z.set i (some x))) M:=by
 unfold za6
 rw [e]
 rfl
theorem zbl {j:Nat}{x:D}(h:Z[j]?.getD none=some x):zad j Z M=.ok x M:=by
 unfold zad
 rw [h]
 rfl
theorem zcx {f:Nat}{c:Call}{xs:List D}(e:s Z M=.ok xs M):zao f c s Z M=c f xs M:=by
 unfold zao;rw [e];rfl
theorem zj4 {f i:Nat}{c:Call}{x:D}{r:Res D}(h:Z[i]?.getD none=some x)(e:c f [x] M=r):zao f c (zaa (zad i) zaj) Z M=r:=(zcx (zaw (zbl h) rfl)).trans e
theorem zhd {f i j:Nat}{c:Call}{x y:D}{r:Res D}(h:Z[i]?.getD none=some x)(h2:Z[j]?.getD none=some y)(e:c f [x,y] M=r):zao f c (zaa (zad i) (zaa (zad j) zaj)) Z M=r:=(zcx (zaw (zbl h) (zaw (zbl h2) rfl))).trans e
theorem zd2 {i:Nat}(h:okE (a Z M) k)(hk:∀x M',k x M'->okE (rest (Z.set i (some x)) M') kf):okE (zaf (za6 (.one i) a) rest Z M) kf:=by
 obtain ⟨x,M',e,q⟩:=zok.mp h
 simp only [za5]
 unfold za6
 rw [e]
 exact hk x M' q
theorem zjm (ht:t Z M=.ok true M)(h:okE (A Z M) (zk0 rest kf)):okE (zaf (zbc t A zak) rest Z M) kf:=by
 simp only [za5,zjd]
 rw [ht]
 exact h
theorem zd3 {b:Bool}(ht:t Z M=.ok b M)(h1:b=true->okE (A Z M) (zk0 rest kf))(h2:b=false->okE (rest Z M) kf):okE (zaf (zbc t A zak) rest Z M) kf:=by
 cases b with
 |true=>exact zjm ht (h1 rfl)
 |false=>exact zar ht (h2 rfl)
theorem zem {b:Bool}(h:t Z M=.ok b M):zb7 t Z M=.ok (!b) M:=by
 unfold zb7
 rw [h]
 rfl
theorem zdq {b:Bool}(h:a Z M=.ok (.bl b) M):zau a Z M=.ok b M:=by
 unfold zau
 rw [h]
 rfl
theorem or_no (h1:t Z M=.ok false M)(h2:u Z M=.ok false M):tOr t u Z M=.ok false M:=by
 unfold tOr
 rw [h1]
 exact h2
theorem or_at {x y:Bool}(h1:t Z M=.ok x M)(h2:u Z M=.ok y M):tOr t u Z M=.ok (x||y) M:=by
 unfold tOr
 rw [h1]
 cases x with
 |true=>rfl
 |false=>exact h2
theorem z5k {x y:Bool}(h1:t Z M=.ok x M)(h2:u Z M=.ok y M):zhm t u Z M=.ok (x&&y) M:=by
 unfold zhm
 rw [h1]
 cases x with
 |true=>exact h2
 |false=>rfl
theorem zhk {x y:Bool}(h1:a Z M=.ok (.bl x) M)(h2:x=true->b Z M=.ok (.bl y) M):zeh a b Z M=.ok (.bl (x&&y)) M:=by
 unfold zeh
 rw [h1]
 cases x with
 |true=>exact h2 rfl
 |false=>rfl
theorem zhv {k:Bool}{x:D}(ht:t Z M=.ok k M)(h1:k=true->a Z M=.ok x M)(h2:k=false->b Z M=.ok x M):ze0 t a b Z M=.ok x M:=by
 unfold ze0
 rw [ht]
 cases k with
 |true=>exact h1 rfl
 |false=>exact h2 rfl
theorem zwc {j:Nat}{ds:List D}(e:Z[j]?.getD none=some (.tup ds)):zbh .len (zaa (zad j) zaj) Z M=.ok (nD ds.length) M:=by
 unfold zbh
 rw [zaw (zbl e) rfl]
 rfl
theorem ne_at {i j:Int}(h1:a Z M=.ok (.int i) M)(h2:b Z M=.ok (.int j) M):zau (za9 .ne a b) Z M=.ok (!(i==j)) M:=by
 refine zdq ?_
 unfold za9
 rw [h1]
 show (b Z M).bind _=_
 rw [h2]
 rfl
theorem chn_at {l h i:Int}{c:GE}(h1:a Z M=.ok (.int l) M)(h2:b Z M=.ok (.int i) M)(h3:c Z M=.ok (.int h) M):zkb .le .le a b c Z M=.ok (.bl (decide (l<=i)&&decide (i<=h))) M:=by
 unfold zkb
 rw [h1]
 show (b Z M).bind _=_
 rw [h2]
 show (if decide (l<=i)=true then _ else _)=_
 cases decide (l<=i) with
 | true =>
   show (c Z M).bind _=_
   rw [h3]
   rfl
 |false=>rfl
end
end LD
namespace LD
open PySem
def Th:Nat->Nat->D->Prop
 |_,_,.non=>True
 |_,_,.bl _=>True
 |_,_,.int _=>True
 |_,L,.str x=>x.cps.size<=L/\x.cps.all (· < 0x110000)=true
 |n+1,L,.tup ds=>ds.length<=L/\∀d∈ds,Th n L d
 |n+1,L,.lst ds=>ds.length<=L/\∀d∈ds,Th n L d
 |_,_,_=>False
theorem Th.mono:∀{n n' L L':Nat}{d:D},Th n L d->n<=n'->L<=L'->Th n' L' d
 |n,n',L,L',.non,_,_,_=>by cases n'<;>trivial
 |n,n',L,L',.bl _,_,_,_=>by cases n'<;>trivial
 |n,n',L,L',.int _,_,_,_=>by cases n'<;>trivial
 | n, n', L, L', .str x, h, _, l => by
   have h:x.cps.size<=L/\x.cps.all (· < 0x110000)=true:=by cases n<;>exact h
   have:x.cps.size<=L'/\x.cps.all (· < 0x110000)=true:=⟨tqh h.1 l,h.2⟩
   cases n'<;>exact this
 |n+1,n'+1,L,L',.tup ds,h,a,l=>⟨tqh h.1 l,fun d hd=>Th.mono (h.2 d hd) (Nat.le_of_succ_le_succ a) l⟩
 |n+1,n'+1,L,L',.lst ds,h,a,l=>⟨tqh h.1 l,fun d hd=>Th.mono (h.2 d hd) (Nat.le_of_succ_le_succ a) l⟩
 |n+1,0,L,L',.tup ds,h,a,l=>by omega
 |n+1,0,L,L',.lst ds,h,a,l=>by omega
 |0,n',L,L',.tup ds,h,a,l=>h.elim
 |0,n',L,L',.lst ds,h,a,l=>h.elim
 |n,n',L,L',.frz _,h,_,_=>by cases n<;>exact h.elim
 |n,n',L,L',.cell _,h,_,_=>by cases n<;>exact h.elim
 |n,n',L,L',.fn _,h,_,_=>by cases n<;>exact h.elim
 |n,n',L,L',.exc _ _,h,_,_=>by cases n<;>exact h.elim
theorem Th.pure:∀{n L:Nat}{d:D},Th n L d->zas n d=true
 |n,L,.non,_=>by cases n<;>rfl
 |n,L,.bl _,_=>by cases n<;>rfl
 |n,L,.int _,_=>by cases n<;>rfl
 |n,L,.str x,h=>by cases n<;>exact h.2
 | n + 1, L, .tup ds, h => by
   show ds.all (zas n)=true
   rw [List.all_eq_true]
   exact fun d hd=>(h.2 d hd).pure
 | n + 1, L, .lst ds, h => by
   show ds.all (zas n)=true
   rw [List.all_eq_true]
   exact fun d hd=>(h.2 d hd).pure
 |0,L,.tup ds,h=>h.elim
 |0,L,.lst ds,h=>h.elim
 |n,L,.frz _,h=>by cases n<;>exact h.elim
 |n,L,.cell _,h=>by cases n<;>exact h.elim
 |n,L,.fn _,h=>by cases n<;>exact h.elim
 |n,L,.exc _ _,h=>by cases n<;>exact h.elim
theorem Th.view {n L:Nat}{d:D}{M:Mem}(h:Th n L d):view M d=d:=by
 cases d<;>first|rfl|(cases n<;>exact h.elim)
theorem Th.tup {n L:Nat}{ds:List D}(h:Th n L (.tup ds)):ds.length<=L/\∀d∈ds,Th n L d:=by
 cases n with
 |zero=>exact h.elim
 |succ n=>exact ⟨h.1,fun d hd=>(h.2 d hd).mono (Nat.le_succ n) (tqg L)⟩
def zbt (lo hi:Int):D->Bool
 |.int i=>decide (lo<=i)&&decide (i<=hi)
 |_=>false
def zfd (w:Nat):D->Bool
 |.tup ds=>ds.length==w
 |_=>false
def zih (w:Nat):D->Bool
 |.tup ds=>ds.length==w&&ds.all (zbt 0 ((w:Int)-1))
 |_=>false
def zj2 (w:Nat):D->Bool
 |.tup ds=>ds.length==w&&ds.all (zih w)
 |_=>false
def zju (w p:Nat):List D->Bool
 |[a,t,c]=>zbt 0 ((p:Int)-1) a&&(zih w t&&zbt 1 3 c)
 |_=>false
def zh0 (w p:Nat):List D->Bool
 |[a,o,t,c]=>zbt 0 ((p:Int)-1) a&&(zbt 0 ((p:Int)-1) o&&(zj2 w t&&zbt 1 3 c))
 |_=>false
def ziq (w p:Nat):List D->Bool
 |[a,o,c]=>zbt 0 ((p:Int)-1) a&&(zbt 0 ((p:Int)-1) o&&zbt 1 3 c)
 |_=>false
def zl1 (w p:Nat):List D->Bool
 |[a,x,c]=>zbt 0 ((p:Int)-1) a&&(zbt 0 ((w:Int)-1) x&&zbt 1 3 c)
 |_=>false
def zc1 (w p:Nat)(s:Str)(ds:List D):Bool:=
 if s="turn" then zju w p ds else if s="join" then zh0 w p ds else if s="move" then ziq w p ds else if s="put" then zl1 w p ds else false
def zgf (w p:Nat):D->Bool
 |.tup (.str s::ds)=>zc1 w p s ds
 |_=>false
def zfm:D->Bool
 |.tup ds=>decide (1<=ds.length)&&decide (ds.length<=6)
 |_=>false
def ztj:D->List D
 |.tup ds=>ds
 |_=>[]
def zez:D->Nat
 |.int i=>i.toNat
 |_=>0
theorem zm0 {lo hi:Int}{d:D}(h:zbt lo hi d=true)(h0:0<=lo):d=nD (zez d)/\lo<=(zez d:Int)/\(zez d:Int)<=hi:=by
 cases d with
 | int i =>
   simp [zbt] at h
   refine ⟨?_,?_⟩
   ·show D.int i=D.int ((i.toNat:Nat):Int)
    rw [Int.toNat_of_nonneg (by omega)]
   ·show lo<=((i.toNat:Nat):Int)/\((i.toNat:Nat):Int)<=hi
    rw [Int.toNat_of_nonneg (by omega)]
    exact h
 |_=>cases h
def zex:D->Bool
 |.tup [a,b,c]=>zbt 2 4 a&&(zbt 1 2 b&&(zfm c&&(ztj c).all (zgf (zez a) (zez b))))
 |_=>false
theorem ztg {d:D}(h:zfd 3 d=false):zex d=false:=by
 match d,h with
 |.tup [a,b,c],h=>cases h
 |.tup [],_=>rfl
 |.tup [_],_=>rfl
 |.tup [_,_],_=>rfl
 |.tup (_::_::_::_::r),_=>rfl
 |.non,_=>rfl
 |.bl _,_=>rfl
 |.int _,_=>rfl
 |.str _,_=>rfl
 |.lst _,_=>rfl
 |.frz _,_=>rfl
 |.cell _,_=>rfl
 |.fn _,_=>rfl
 |.exc _ _,_=>rfl
structure HasQ (P:Nat->Option Df):Prop where
 is_between:P 0=some ⟨3,3,zep⟩
 is_word:P 1=some ⟨2,2,zic⟩
 is_place:P 2=some ⟨2,2,zhf⟩
 is_cost:P 3=some ⟨1,1,zid⟩
 is_tuple_of:P 4=some ⟨2,2,ze5⟩
 is_table:P 5=some ⟨2,2,zhe⟩
 is_double_table:P 6=some ⟨2,2,zdw⟩
 is_turn:P 7=some ⟨3,6,zfp⟩
 is_join:P 8=some ⟨3,7,zfr⟩
 is_move:P 9=some ⟨3,6,zfq⟩
 is_put:P 10=some ⟨3,6,zgs⟩
 is_deed:P 11=some ⟨3,5,zfs⟩
 is_machine:P 12=some ⟨1,4,zeo⟩
theorem zm8 (f:D->Bool):∀ds:List D,boolsOf (ds.map fun d=>.bl (f d))=some (ds.map f)
 |[]=>rfl
 |d::r=>by simp [boolsOf,zm8 f r]
theorem all_eq {w:GW}{ge:GE}{Z:Env}{M:Mem}{ds:List D}(f:D->Bool)(hw:okE (w Z M) fun wk M'=>M'=M/\wk M=some ds)(hz:ds.length<=sz)(he:∀d∈ds,ge (some d::Z) M=.ok (.bl (f d)) M) :
 zbh .all (zaa (zcs false 1 (.one 0) w (zc5 ge)) zaj) Z M=.ok (.bl (ds.all f)) M:=by
 refine zav ?_
 simp only [zec,zbq,zjq,zbx]
 refine zbo hw fun wk M' ⟨e1,e2⟩=>?_
 subst e1
 refine zj3 (fun d=>.bl (f d)) hz e2 (fun d hd=>⟨some d::Z,rfl,he d hd⟩) ?_
 simp only [zcn,List.length_map,z5l]
 refine ⟨hz,_,zm8 f ds,?_,trivial⟩
 congr 1
 rw [List.all_map];rfl
theorem ztn {k L:Nat}{x:D}(hx:Th k L x){t:Ty}(h:((¬ ∃s,x=.str s)/\t=.str\/(¬ ∃s,x=.tup s)/\t=.tuple)):zca t x=some false:=by
 rcases h with ⟨h,rfl⟩|⟨h,rfl⟩<;>cases x<;>first|rfl|exact absurd ⟨_,rfl⟩ h|(cases k<;>exact hx.elim)
section
variable {P:Nat->Option Df}(h:HasQ P){M:Mem}{k L:Nat}{d:D}
include h
theorem ziz (n:Nat)(hd:Th k L d)(lo hi:Int):zal P (n+1) 0 [d,.int lo,.int hi] M=.ok (.bl (zbt lo hi d)) M:=by
 cases d with
 | int t =>
   refine zav (zay h.is_between rfl ?_)
   simp [zep,zca,zbt]
   by_cases h1:lo<=t<;>simp [h1]<;>omega
 |fn j=>cases k<;>exact hd.elim
 |exc y p=>cases k<;>exact hd.elim
 |_=>exact zav (zay h.is_between rfl (zc2 rfl))
theorem zsa (n:Nat){w:Nat}(hd:Th k L d):zal P (n+2) 1 [nD w,d] M=.ok (.bl (zbt 0 ((w:Int)-1) d)) M:=by
 refine zav (zay h.is_word rfl ?_)
 simp [zic,ziz h _ hd]
theorem zgt (n:Nat){w:Nat}(hd:Th k L d):zal P (n+2) 2 [nD w,d] M=.ok (.bl (zbt 0 ((w:Int)-1) d)) M:=by
 refine zav (zay h.is_place rfl ?_)
 simp [zhf,ziz h _ hd]
theorem zk8 (n:Nat)(hd:Th k L d):zal P (n+2) 3 [d] M=.ok (.bl (zbt 1 3 d)) M:=by
 refine zav (zay h.is_cost rfl ?_)
 simp [zid,ziz h _ hd]
theorem zmh (n:Nat){w:Nat}(hd:Th k L d):zal P (n+1) 4 [nD w,d] M=.ok (.bl (zfd w d)) M:=by
 refine zav (zay h.is_tuple_of rfl ?_)
 cases d with
 |fn j=>cases k<;>exact hd.elim
 |exc y p=>cases k<;>exact hd.elim
 | tup ds =>
   simp [ze5,zca,zfd]
   by_cases e:ds.length=w
   ·simp [e]
   ·have:¬ ((ds.length:Int)=(w:Int)):=by omega
    simp [e,this]
 |_=>exact zc2 rfl
theorem zup (n:Nat){w:Nat}(hd:Th k L d)(hL:L<=100):zal P (n+3) 5 [nD w,d] M=.ok (.bl (zih w d)) M:=by
 refine zav (zay h.is_table rfl ?_)
 have e:=zmh h (n+1) (w:=w) (M:=M) hd
 simp only [zhe,za5,zcy,e_and,zen,zbq,zbx,zbp,List.map_cons,List.map_nil,List.cons_append,List.nil_append,List.getElem?_cons_zero,List.getElem?_cons_succ,Option.getD_some,Option.some.injEq,exists_eq_left']
 rw [e]
 refine ⟨_,rfl,?_⟩
 cases d with
 | tup ds =>
   have ht:=hd.tup
   by_cases el:ds.length=w
   ·have:zfd w (.tup ds)=true:=by simp [zfd,el]
    rw [this,if_pos rfl,all_eq (ds:=ds) (zbt 0 ((w:Int)-1)) (by simp;exact ⟨rfl,rfl⟩) (zax (by omega)) (fun d hd=>zav (by simp [zsa h n (ht.2 d hd)]))]
    exact ⟨by simp [zih,el],rfl⟩
   ·have:zfd w (.tup ds)=false:=by simp [zfd,el]
    rw [this,if_neg (by simp)]
    exact ⟨by simp [zih,el],rfl⟩
 |_=>exact ⟨rfl,rfl⟩
theorem zz1 (n:Nat){w:Nat}(hd:Th k L d)(hL:L<=100):zal P (n+4) 6 [nD w,d] M=.ok (.bl (zj2 w d)) M:=by
 refine zav (zay h.is_double_table rfl ?_)
 have e:=zmh h (n+2) (w:=w) (M:=M) hd
 simp only [zdw,za5,zcy,e_and,zen,zbq,zbx,zbp,List.map_cons,List.map_nil,List.cons_append,List.nil_append,List.getElem?_cons_zero,List.getElem?_cons_succ,Option.getD_some,Option.some.injEq,exists_eq_left']
 rw [e]
 refine ⟨_,rfl,?_⟩
 cases d with
 | tup ds =>
   have ht:=hd.tup
   by_cases el:ds.length=w
   ·have:zfd w (.tup ds)=true:=by simp [zfd,el]
    rw [this,if_pos rfl,all_eq (ds:=ds) (zih w) (by simp;exact ⟨rfl,rfl⟩) (zax (by omega)) (fun d hd=>zav (by simp [zup h n (ht.2 d hd) hL]))]
    exact ⟨by simp [zj2,el],rfl⟩
   ·have:zfd w (.tup ds)=false:=by simp [zfd,el]
    rw [this,if_neg (by simp)]
    exact ⟨by simp [zj2,el],rfl⟩
 |_=>exact ⟨rfl,rfl⟩
omit h in
theorem zov {j c:Nat}{ds:List D}{Z:Env}(e:Z[j]?.getD none=some (.tup ds))(hc:ds.length≠c):(zau (za9 .ne (zbh .len (zaa (zad j) zaj)) (gC (.int (c:Int)))):GT) Z M=.ok true M:=by
 rw [ne_at (zwc e) rfl,beq_eq_false_iff_ne.mpr (by omega)]
 rfl
theorem zzw (n:Nat){w p:Nat}{ds:List D}(hd:∀d∈ds,Th k L d)(hL:L<=100)(hl:ds.length<=100):zal P (n+4) 7 [nD w,nD p,.tup ds] M=.ok (.bl (zju w p ds)) M:=by
 refine zav (zay h.is_turn rfl ?_)
 match ds,hd,hl with
 | [a, t, c], hd, _ =>
   show okE (zfp (zal P (n+3)) [some (nD w),some (nD p),some (.tup [a,t,c]),none,none,none] M) _
   unfold zfp
   refine zar rfl (zcg rfl ?_)
   show okE _ _
   exact zdy (zhk (zhd rfl rfl (zgt h (n+1) (hd a (.head _)))) fun _=>zhk (zhd rfl rfl (zup h n (hd t (.tail _ (.head _))) hL)) fun _=>zj4 rfl (zk8 h (n+1) (hd c (.tail _ (.tail _ (.head _)))))) ⟨rfl,rfl⟩
 |[],_,_=>exact zc2 rfl
 |[_],_,_=>exact zc2 rfl
 |[_,_],_,_=>exact zc2 rfl
 | a :: b :: c :: d :: r, _, _ =>
   show okE (zfp (zal P (n+3)) [some (nD w),some (nD p),some (.tup (a::b::c::d::r)),none,none,none] M) _
   exact zbw (zov (c:=3) (ds:=a::b::c::d::r) rfl (fun z=>by simp at z)) rfl ⟨rfl,rfl⟩
theorem zz0 (n:Nat){w p:Nat}{ds:List D}(hd:∀d∈ds,Th k L d)(hL:L<=100)(hl:ds.length<=100):zal P (n+5) 8 [nD w,nD p,.tup ds] M=.ok (.bl (zh0 w p ds)) M:=by
 refine zav (zay h.is_join rfl ?_)
 match ds,hd,hl with
 | [a, o, t, c], hd, _ =>
   show okE (zfr (zal P (n+4)) [some (nD w),some (nD p),some (.tup [a,o,t,c]),none,none,none,none] M) _
   unfold zfr
   refine zar rfl (zcg rfl ?_)
   refine zd3 (or_at (zem (zdq (zhd rfl rfl (zgt h (n+2) (hd a (.head _)))))) (zem (zdq (zhd rfl rfl (zgt h (n+2) (hd o (.tail _ (.head _)))))))) (fun e=>?_) fun e=>?_
   ·refine zdy (v:=.bl false) rfl ⟨?_,rfl⟩
    show D.bl false=.bl (_&&(_&&_))
    cases q:zbt 0 ((p:Int)-1) a with
    |false=>rfl
    | true =>
      rw [q] at e
      cases q2:zbt 0 ((p:Int)-1) o with
      |false=>rfl
      |true=>rw [q2] at e;cases e
   ·refine zdy (zhk (zhd rfl rfl (zz1 h n (hd t (.tail _ (.tail _ (.head _)))) hL)) fun _=>zj4 rfl (zk8 h (n+2) (hd c (.tail _ (.tail _ (.tail _ (.head _))))))) ⟨?_,rfl⟩
    show _=D.bl (zbt 0 ((p:Int)-1) a&&(zbt 0 ((p:Int)-1) o&&_))
    cases q:zbt 0 ((p:Int)-1) a with
    |false=>rw [q] at e;cases e
    | true =>
      rw [q] at e
      cases q2:zbt 0 ((p:Int)-1) o with
      |false=>rw [q2] at e;cases e
      |true=>rfl
 |[],_,_=>exact zc2 rfl
 |[_],_,_=>exact zc2 rfl
 |[_,_],_,_=>exact zc2 rfl
 |[_,_,_],_,_=>exact zc2 rfl
 | a :: b :: c :: d :: e :: r, _, _ =>
   show okE (zfr (zal P (n+4)) [some (nD w),some (nD p),some (.tup (a::b::c::d::e::r)),none,none,none,none] M) _
   exact zbw (zov (c:=4) (ds:=a::b::c::d::e::r) rfl (fun z=>by simp at z)) rfl ⟨rfl,rfl⟩
theorem zzz (n:Nat){w p:Nat}{ds:List D}(hd:∀d∈ds,Th k L d)(hL:L<=100)(hl:ds.length<=100):zal P (n+3) 9 [nD w,nD p,.tup ds] M=.ok (.bl (ziq w p ds)) M:=by
 refine zav (zay h.is_move rfl ?_)
 match ds,hd,hl with
 | [a, t, c], hd, _ =>
   show okE (zfq (zal P (n+2)) [some (nD w),some (nD p),some (.tup [a,t,c]),none,none,none] M) _
   unfold zfq
   refine zar rfl (zcg rfl ?_)
   show okE _ _
   exact zdy (zhk (zhd rfl rfl (zgt h n (hd a (.head _)))) fun _=>zhk (zhd rfl rfl (zgt h n (hd t (.tail _ (.head _))))) fun _=>zj4 rfl (zk8 h n (hd c (.tail _ (.tail _ (.head _)))))) ⟨rfl,rfl⟩
 |[],_,_=>exact zc2 rfl
 |[_],_,_=>exact zc2 rfl
 |[_,_],_,_=>exact zc2 rfl
 | a :: b :: c :: d :: r, _, _ =>
   show okE (zfq (zal P (n+2)) [some (nD w),some (nD p),some (.tup (a::b::c::d::r)),none,none,none] M) _
   exact zbw (zov (c:=3) (ds:=a::b::c::d::r) rfl (fun z=>by simp at z)) rfl ⟨rfl,rfl⟩
theorem z3d (n:Nat){w p:Nat}{ds:List D}(hd:∀d∈ds,Th k L d)(hL:L<=100)(hl:ds.length<=100):zal P (n+3) 10 [nD w,nD p,.tup ds] M=.ok (.bl (zl1 w p ds)) M:=by
 refine zav (zay h.is_put rfl ?_)
 match ds,hd,hl with
 | [a, t, c], hd, _ =>
   show okE (zgs (zal P (n+2)) [some (nD w),some (nD p),some (.tup [a,t,c]),none,none,none] M) _
   unfold zgs
   refine zar rfl (zcg rfl ?_)
   show okE _ _
   exact zdy (zhk (zhd rfl rfl (zgt h n (hd a (.head _)))) fun _=>zhk (zhd rfl rfl (zsa h n (hd t (.tail _ (.head _))))) fun _=>zj4 rfl (zk8 h n (hd c (.tail _ (.tail _ (.head _)))))) ⟨rfl,rfl⟩
 |[],_,_=>exact zc2 rfl
 |[_],_,_=>exact zc2 rfl
 |[_,_],_,_=>exact zc2 rfl
 | a :: b :: c :: d :: r, _, _ =>
   show okE (zgs (zal P (n+2)) [some (nD w),some (nD p),some (.tup (a::b::c::d::r)),none,none,none] M) _
   exact zbw (zov (c:=3) (ds:=a::b::c::d::r) rfl (fun z=>by simp at z)) rfl ⟨rfl,rfl⟩
omit h in
theorem zoc {w p:Nat}{ds:List D}:zc1 w p "turn" ds=zju w p ds:=by unfold zc1;rw [if_pos rfl]
omit h in
theorem zob {w p:Nat}{ds:List D}:zc1 w p "join" ds=zh0 w p ds:=by unfold zc1;rw [if_neg (by decide +kernel),if_pos rfl]
omit h in
theorem zoa {w p:Nat}{ds:List D}:zc1 w p "move" ds=ziq w p ds:=by unfold zc1;rw [if_neg (by decide +kernel),if_neg (by decide +kernel),if_pos rfl]
omit h in
theorem zn9 {w p:Nat}{ds:List D}:zc1 w p "put" ds=zl1 w p ds:=by unfold zc1;rw [if_neg (by decide +kernel),if_neg (by decide +kernel),if_neg (by decide +kernel),if_pos rfl]
omit h in
theorem zx2 {w p:Nat}{ds:List D}{s:Str}(e1:¬ s="turn")(e2:¬ s="join")(e3:¬ s="move")(e4:¬ s="put"):zc1 w p s ds=false:=by unfold zc1;rw [if_neg e1,if_neg e2,if_neg e3,if_neg e4]
omit h in
theorem zvm {s:Str}(e1:¬ s="turn")(e2:¬ s="join")(e3:¬ s="move")(e4:¬ s="put"):zdm.lookup s=none:=by
 unfold zdm
 simp only [List.lookup,beq_eq_false_iff_ne.mpr e1,beq_eq_false_iff_ne.mpr e2,beq_eq_false_iff_ne.mpr e3,beq_eq_false_iff_ne.mpr e4]
theorem zmv (n:Nat){w p f:Nat}{s:Str}{ds:List D}{v:Bool}(lk:zdm.lookup s=some f)(q:zal P (n+5) f [nD w,nD p,.tup ds] M=.ok (.bl v) M):zal P (n+6) 11 [nD w,nD p,.tup (.str s::ds)] M=.ok (.bl v) M:=by
 refine zav (zay h.is_deed rfl ?_)
 simp [-List.lookup_isSome_iff,zfs,zca,ixN,lk,zew,sIx,zci,cut,q]
theorem z14 (n:Nat){w p:Nat}{s:Str}{ds:List D}(lk:zdm.lookup s=none):zal P (n+6) 11 [nD w,nD p,.tup (.str s::ds)] M=.ok (.bl false) M:=by
 refine zav (zay h.is_deed rfl ?_)
 have e:(zdm.lookup s).isSome=false:=by rw [lk];rfl
 simp [-List.lookup_isSome_iff,-List.lookup_eq_none_iff,-Option.isSome_eq_false_iff,zfs,zca,ixN,e]
 exact lk
theorem zz3 (n:Nat){w p:Nat}(hd:Th k L d)(hL:L<=100):zal P (n+6) 11 [nD w,nD p,d] M=.ok (.bl (zgf w p d)) M:=by
 cases d with
 |fn j=>cases k<;>exact hd.elim
 |exc y p=>cases k<;>exact hd.elim
 | tup xs =>
   have ht:=hd.tup
   cases xs with
   |nil=>exact zav (zay h.is_deed rfl (zc2 rfl))
   | cons x ds =>
     have hx:=ht.2 x List.mem_cons_self
     have hds:∀d∈ds,Th k L d:=fun d hd=>ht.2 d (List.mem_cons_of_mem _ hd)
     have hl:ds.length<=100:=by have:=ht.1;simp at this;omega
     by_cases hs:∃s,x=.str s
     ·obtain ⟨s,rfl⟩:=hs
      show _=Res.ok (D.bl (zc1 w p s ds)) M
      by_cases e1:s="turn"
      ·subst e1
       rw [zoc];exact zmv h n lkS1 (zzw h (n+1) hds hL hl)
      by_cases e2:s="join"
      ·subst e2
       rw [zob];exact zmv h n lkS2 (zz0 h n hds hL hl)
      by_cases e3:s="move"
      ·subst e3
       rw [zoa];exact zmv h n lkS3 (zzz h (n+2) hds hL hl)
      by_cases e4:s="put"
      ·subst e4
       rw [zn9];exact zmv h n lkS4 (z3d h (n+2) hds hL hl)
      rw [zx2 e1 e2 e3 e4]
      exact z14 h n (zvm e1 e2 e3 e4)
     ·have e1:zgf w p (.tup (x::ds))=false:=by cases x<;>first|rfl|exact absurd ⟨_,rfl⟩ hs
      have e2:=ztn hx (t:=.str) (.inl ⟨hs,rfl⟩)
      rw [e1]
      refine zav (zay h.is_deed rfl ?_)
      have e3:zca .tuple (.tup (x::ds))=some true:=rfl
      simp [zfs,ixN,e2,e3]
 |_=>exact zav (zay h.is_deed rfl (zc2 rfl))
theorem z1e (n:Nat)(hd:Th k L d)(hn:zfd 3 d=false):zal P (n+7) 12 [d] M=.ok (.bl false) M:=by
 refine zav (zay h.is_machine rfl ?_)
 have e:zal P (n+6) 4 [.int 3,d] M=.ok (.bl (zfd 3 d)) M:=zmh h (n+5) (w:=3) (M:=M) hd
 rw [hn] at e
 simp [zeo,e]
theorem mach3 (n:Nat){a b c:D}(hd:Th k L (.tup [a,b,c]))(hL:L<=100):zal P (n+7) 12 [.tup [a,b,c]] M=.ok (.bl (zex (.tup [a,b,c]))) M:=by
 refine zav (zay h.is_machine rfl ?_)
 have ht:=hd.tup.2
 simp only [List.mem_cons,List.not_mem_nil,or_false,forall_eq_or_imp,forall_eq] at ht
 have e:zal P (n+6) 4 [.int 3,.tup [a,b,c]] M=.ok (.bl true) M:=zmh h (n+5) (w:=3) (M:=M) hd
 have b1:=ziz h (n+5) (M:=M) ht.1 2 4
 have b2:=ziz h (n+5) (M:=M) ht.2.1 1 2
 simp only [zeo,za5,zn4,zcy,zet,zr3,zjd,t_not,zio,t_or,s_asgt,e_c,zen,zbq,zbx,zbp,ztt,List.map_cons,List.map_nil,List.cons_append,List.nil_append,List.getElem?_cons_zero,List.getElem?_cons_succ,Option.getD_some,Option.some.injEq,exists_eq_left']
 rw [e]
 refine ⟨_,rfl,?_⟩
 rw [if_neg (by simp)]
 refine ⟨_,_,rfl,rfl,_,rfl,?_⟩
 rw [b1]
 refine ⟨_,rfl,?_⟩
 by_cases c1:zbt 2 4 a=false
 ·rw [c1,if_pos (by decide),if_pos trivial]
  exact ⟨by simp [zex,c1],rfl⟩
 have c1:zbt 2 4 a=true:=by simpa using c1
 rw [c1,if_neg (by simp)]
 refine ⟨_,rfl,?_⟩
 rw [b2]
 refine ⟨_,rfl,?_⟩
 by_cases c2:zbt 1 2 b=false
 ·rw [c2,if_pos (by decide)]
  exact ⟨by simp [zex,c2],rfl⟩
 have c2:zbt 1 2 b=true:=by simpa using c2
 rw [c2,if_neg (by simp)]
 refine ⟨_,rfl,?_⟩
 obtain ⟨ea,_,_⟩:=zm0 c1 (by decide)
 obtain ⟨eb,_,_⟩:=zm0 c2 (by decide)
 cases c with
 |fn j=>exact absurd ht.2.2 (by cases k<;>exact id)
 |exc y p=>exact absurd ht.2.2 (by cases k<;>exact id)
 | tup ds =>
   have hc:=ht.2.2.tup
   refine ⟨true,rfl,true,rfl,?_⟩
   rw [if_neg (by simp)]
   simp only [e_chn,e_c]
   refine zec.mpr (zbq.mpr (zbp.mpr ⟨_,rfl,zbx.mpr (zkr.mpr ⟨_,rfl,?_⟩)⟩))
   by_cases l1:(1:Int)<=(ds.length:Int)
   ·rw [decide_eq_true l1,if_pos (by decide)]
    refine ⟨_,rfl,_,rfl,?_⟩
    by_cases l6:(ds.length:Int)<=6
    ·rw [decide_eq_true l6,if_neg (by simp)]
     have lb:zfm (.tup ds)=true:=by simp [zfm];omega
     rw [all_eq (ds:=ds) (zgf (zez a) (zez b)) (by simp;exact ⟨rfl,rfl⟩) (zax (by omega)) (fun d hd=>zav (by
      have q:=zz3 h n (w:=zez a) (p:=zez b) (M:=M) (hc.2 d hd) hL
      rw [<- ea,<- eb] at q
      simp [q]))]
     refine ⟨?_,rfl⟩
     show D.bl (ds.all (zgf (zez a) (zez b)))=D.bl (zbt 2 4 a&&(zbt 1 2 b&&(zfm (.tup ds)&&ds.all (zgf (zez a) (zez b)))))
     rw [c1,c2,lb];simp
    ·rw [decide_eq_false l6,if_pos (by decide)]
     refine ⟨?_,rfl⟩
     have lb:zfm (.tup ds)=false:=by simp [zfm];omega
     simp [zex,lb]
   ·rw [decide_eq_false l1,if_neg (by simp)]
    refine ⟨_,rfl,?_⟩
    rw [if_pos (by decide)]
    refine ⟨?_,rfl⟩
    have lb:zfm (.tup ds)=false:=by simp [zfm];omega
    simp [zex,lb]
 | _ =>
   refine ⟨false,rfl,false,rfl,?_⟩
   rw [if_pos (by decide)]
   exact ⟨by simp [zex,zfm],rfl⟩
theorem znd (n:Nat)(hd:Th k L d)(hL:L<=100):zal P (n+7) 12 [d] M=.ok (.bl (zex d)) M:=by
 by_cases hn:zfd 3 d=false
 ·rw [z1e h n hd hn,ztg hn]
 ·match d,hd,hn with
  |.tup [a,b,c],hd,_=>exact mach3 h n hd hL
  |.tup [],_,hn=>exact absurd rfl hn
  |.tup [_],_,hn=>exact absurd rfl hn
  |.tup [_,_],_,hn=>exact absurd rfl hn
  |.tup (_::_::_::_::r),_,hn=>exact absurd (by simp [zfd]) hn
  |.non,_,hn=>exact absurd rfl hn
  |.bl _,_,hn=>exact absurd rfl hn
  |.int _,_,hn=>exact absurd rfl hn
  |.str _,_,hn=>exact absurd rfl hn
  |.lst _,_,hn=>exact absurd rfl hn
  |.frz _,_,hn=>exact absurd rfl hn
  |.cell _,_,hn=>exact absurd rfl hn
  |.fn _,_,hn=>exact absurd rfl hn
  |.exc _ _,_,hn=>exact absurd rfl hn
omit h in
theorem zdu {lo hi:Int}{n:Nat}(h1:lo<=(n:Int))(h2:(n:Int)<=hi):zbt lo hi (nD n)=true:=by simp [zbt];omega
omit h in
theorem zr4 {w:Nat}{t:List Nat}(ht:ziv w t):zih w (zgn t)=true:=by
 have e:(t.map nD).all (zbt 0 ((w:Int)-1))=true:=by
  rw [List.all_eq_true]
  intro x hx
  obtain ⟨i,hi,rfl⟩:=List.mem_map.mp hx
  have:=ht.2 i hi
  exact zdu (by omega) (by omega)
 show ((t.map nD).length==w&&(t.map nD).all (zbt 0 ((w:Int)-1)))=true
 rw [e,List.length_map,ht.1];simp
omit h in
theorem zyw {w p:Nat}{d:zb0}(hd:ze7 w p d):zgf w p d.d=true:=by
 cases d with
 | turn a t c =>
   obtain ⟨h1,h2,h3⟩:=hd
   unfold zfv at h3
   show zc1 w p "turn" _=true
   rw [zoc]
   simp only [zju]
   rw [zdu (by omega) (by omega),zr4 h2,zdu (by omega) (by omega)];rfl
 | join a o t c =>
   obtain ⟨h1,h2,h3,h4⟩:=hd
   unfold zfv at h4
   show zc1 w p "join" _=true
   rw [zob]
   simp only [zh0]
   have e:zj2 w (.tup (t.map zgn))=true:=by
    have e:(t.map zgn).all (zih w)=true:=by
     rw [List.all_eq_true]
     intro x hx
     obtain ⟨i,hi,rfl⟩:=List.mem_map.mp hx
     exact zr4 (h3.2 i hi)
    show ((t.map zgn).length==w&&(t.map zgn).all (zih w))=true
    rw [e,List.length_map,h3.1];simp
   rw [zdu (by omega) (by omega),zdu (by omega) (by omega),e,zdu (by omega) (by omega)];rfl
 | move a o c =>
   obtain ⟨h1,h2,h3⟩:=hd
   unfold zfv at h3
   show zc1 w p "move" _=true
   rw [zoa]
   simp only [ziq]
   rw [zdu (by omega) (by omega),zdu (by omega) (by omega),zdu (by omega) (by omega)];rfl
 | put a o c =>
   obtain ⟨h1,h2,h3⟩:=hd
   unfold zfv at h3
   show zc1 w p "put" _=true
   rw [zn9]
   simp only [zl1]
   rw [zdu (by omega) (by omega),zdu (by omega) (by omega),zdu (by omega) (by omega)];rfl
omit h in
theorem zjx {m:zcc}(hm:zdf m):zex m.d=true:=by
 have w2:=hm.w2
 have w4:=hm.w4
 have p1:=hm.p1
 have p2:=hm.p2
 have l1:=hm.d1
 have l6:=hm.d6
 have e:(m.deeds.map zb0.d).all (zgf m.words m.places)=true:=by
  rw [List.all_eq_true]
  intro x hx
  obtain ⟨i,hi,rfl⟩:=List.mem_map.mp hx
  exact zyw (hm.ok i hi)
 have e2:zfm (.tup (m.deeds.map zb0.d))=true:=by simp [zfm];omega
 show (zbt 2 4 (nD m.words)&&(zbt 1 2 (nD m.places)&&(zfm (.tup (m.deeds.map zb0.d))&&(m.deeds.map zb0.d).all (zgf m.words m.places))))=true
 rw [zdu (by omega) (by omega),zdu (by omega) (by omega),e,e2];rfl
end
end LD
namespace LD
open PySem
def thB:Nat->Nat->D->Bool
 |_,_,.non=>true
 |_,_,.bl _=>true
 |_,_,.int _=>true
 |_,L,.str x=>decide (x.cps.size<=L)&&x.cps.all (· < 0x110000)
 |n+1,L,.tup ds=>decide (ds.length<=L)&&ds.all (thB n L)
 |n+1,L,.lst ds=>decide (ds.length<=L)&&ds.all (thB n L)
 |_,_,_=>false
theorem zls:∀{n L:Nat}{d:D},thB n L d=true->Th n L d
 |n,L,.non,_=>by cases n<;>trivial
 |n,L,.bl _,_=>by cases n<;>trivial
 |n,L,.int _,_=>by cases n<;>trivial
 | n, L, .str x, h => by
   have q:(decide (x.cps.size<=L)&&x.cps.all (· < 0x110000))=true:=by cases n<;>exact h
   simp only [Bool.and_eq_true,decide_eq_true_eq] at q
   have q:x.cps.size<=L/\x.cps.all (· < 0x110000)=true:=q
   cases n<;>exact q
 | n + 1, L, .tup ds, h => by
   have h:(decide (ds.length<=L)&&ds.all (thB n L))=true:=h
   simp only [Bool.and_eq_true,decide_eq_true_eq] at h
   exact ⟨h.1,fun d hd=>zls (List.all_eq_true.mp h.2 d hd)⟩
 | n + 1, L, .lst ds, h => by
   have h:(decide (ds.length<=L)&&ds.all (thB n L))=true:=h
   simp only [Bool.and_eq_true,decide_eq_true_eq] at h
   exact ⟨h.1,fun d hd=>zls (List.all_eq_true.mp h.2 d hd)⟩
 |0,L,.tup ds,h=>by cases h
 |0,L,.lst ds,h=>by cases h
 |n,L,.frz _,h=>by cases n<;>cases h
 |n,L,.cell _,h=>by cases n<;>cases h
 |n,L,.fn _,h=>by cases n<;>cases h
 |n,L,.exc _ _,h=>by cases n<;>cases h
theorem zxe {w:Nat}{t:List Nat}(h:ziv w t)(w4:w<=4):Th 2 6 (zgn t):=by
 refine ⟨by have:=h.1;simp;omega,fun d hd=>?_⟩
 obtain ⟨i,_,rfl⟩:=List.mem_map.mp hd
 trivial
theorem zrj {n:Nat}{z:Str}(h:thB 0 6 (.str z)=true):Th n 6 (.str z):=(zls h).mono (Nat.zero_le n) (tqg 6)
theorem zg9 {n:Nat}{i:Int}:Th n 6 (.int i):=by cases n<;>trivial
theorem z5a {w p:Nat}{d:zb0}(h:ze7 w p d)(w4:w<=4):Th 4 6 d.d:=by
 cases d with
 | turn a t c =>
   refine ⟨by simp,fun x hx=>?_⟩
   simp only [List.mem_cons,List.not_mem_nil,or_false] at hx
   rcases hx with rfl|rfl|rfl|rfl
   ·exact zrj (by decide +kernel)
   ·exact zg9
   ·exact (zxe h.2.1 w4).mono (by decide) (by decide)
   ·exact zg9
 | join a o t c =>
   refine ⟨by simp,fun x hx=>?_⟩
   simp only [List.mem_cons,List.not_mem_nil,or_false] at hx
   rcases hx with rfl|rfl|rfl|rfl|rfl
   ·exact zrj (by decide +kernel)
   ·exact zg9
   ·exact zg9
   ·refine ⟨by have:=h.2.2.1.1;simp;omega,fun y hy=>?_⟩
    obtain ⟨z,hz,rfl⟩:=List.mem_map.mp hy
    exact zxe (h.2.2.1.2 z hz) w4
   ·exact zg9
 | move a o c =>
   refine ⟨by simp,fun x hx=>?_⟩
   simp only [List.mem_cons,List.not_mem_nil,or_false] at hx
   rcases hx with rfl|rfl|rfl|rfl
   ·exact zrj (by decide +kernel)
   all_goals exact zg9
 | put a o c =>
   refine ⟨by simp,fun x hx=>?_⟩
   simp only [List.mem_cons,List.not_mem_nil,or_false] at hx
   rcases hx with rfl|rfl|rfl|rfl
   ·exact zrj (by decide +kernel)
   all_goals exact zg9
theorem zkp {m:zcc}(h:zdf m):Th 6 6 m.d:=by
 refine ⟨by simp,fun x hx=>?_⟩
 simp only [List.mem_cons,List.not_mem_nil,or_false] at hx
 rcases hx with rfl|rfl|rfl
 ·exact zg9
 ·exact zg9
 ·refine ⟨by have:=h.d6;simpa using this,fun y hy=>?_⟩
  obtain ⟨z,hz,rfl⟩:=List.mem_map.mp hy
  exact z5a (h.ok z hz) h.w4
theorem HasM0.q {P:Nat->Option Df}(h:HasM0 P):HasQ P:=⟨h.is_between,h.is_word,h.is_place,h.is_cost,h.is_tuple_of,h.is_table,h.is_double_table,h.is_turn,h.is_join,h.is_move,h.is_put,h.is_deed,h.is_machine⟩
end LD
namespace LD
open PySem
structure Sub (M M':Mem):Prop where
 len:M.length<=M'.length
 at':∀k,k<M.length->M'[k]?=M[k]?
def zb0.at':zb0->Nat
 |.turn a _ _=>a
 |.join a _ _ _=>a
 |.move a _ _=>a
 |.put a _ _=>a
theorem getD_mem {α:Type}{l:List α}{i:Nat}{d:α}(h:i<l.length):l.getD i d∈l:=by
 rw [List.getD_eq_getElem?_getD,List.getElem?_eq_getElem h];exact List.getElem_mem h
def ziw (m:zcc)(r:List Nat):Prop:=r.length<=40/\∀i∈r,i<m.deeds.length
def ziy (m:zcc)(i:Nat):zb0:=m.deeds.getD i (.put 0 0 1)
def rowD (r:List Nat):D:=.lst (r.map nD)
def zoy (m:zcc)(r:List Nat):Nat:=(r.map fun i=>(ziy m i).cost).sum
theorem z1f {m:zcc}{i:Nat}(hi:i<m.deeds.length):((ixN (m.deeds.map zb0.d).length (i:Int)).bind fun j=>(m.deeds.map zb0.d)[j]?)=some (ziy m i).d:=by
 rw [zg8 (by simpa using hi)]
 simp [ziy,List.getD_eq_getElem?_getD,hi]
theorem md2 {m:zcc}{M:Mem}:zf6 m.d (.int 2) M=some (.tup (m.deeds.map zb0.d)):=rfl
theorem z1t {m:zcc}{M:Mem}{i:Nat}(hi:i<m.deeds.length):zf6 (.tup (m.deeds.map zb0.d)) (nD i) M=some (ziy m i).d:=z1f hi
theorem zqt {d:zb0}{M:Mem}:zf6 d.d (.int (-1)) M=some (nD d.cost):=by cases d<;>rfl
def zgi (M:Mem)(x:D)(r:List Nat):Prop:=x=.lst (r.map nD)\/∃q,x=.cell q/\M[q]?=some (r.map nD)
theorem zgi.l {M:Mem}{r:List Nat}:zgi M (.lst (r.map nD)) r:=.inl rfl
theorem zgi.seq {M:Mem}{x:D}{r:List Nat}(h:zgi M x r):zcp M x=some (r.map nD):=by
 rcases h with rfl|⟨q,rfl,e⟩
 ·rfl
 ·exact e
theorem zgi.is {M:Mem}{x:D}{r:List Nat}(h:zgi M x r):zd5 x=true/\zh1 x=true/\zca .list x=some true:=by
 rcases h with rfl|⟨q,rfl,e⟩<;>exact ⟨rfl,rfl,rfl⟩
theorem zgi.len {M:Mem}{x:D}{r:List Nat}{k:D->Mem->Prop}(h:zgi M x r):okE (zff .len [x] M) k↔k (.int r.length) M:=by
 rcases h with rfl|⟨q,rfl,e⟩
 ·show k (.int (r.map nD).length) M↔_
  simp
 ·show okE (match M[q]? with|some xs=>_|none=>_) k↔_
  rw [e];simp
theorem ztm (f:Nat->Nat):∀(r:List Nat),∃bs,intsOf (r.map fun i=>nD (f i))=some bs/\bs.sum=(((r.map f).sum:Nat):Int)
 |[]=>⟨[],rfl,rfl⟩
 | i :: r => by
   obtain ⟨bs,e1,e2⟩:=ztm f r
   exact ⟨(f i:Int)::bs,by simp [intsOf,e1],by simp [e2]⟩
section
variable {P:Nat->Option Df}(h:HasM0 P){M:Mem}
include h
theorem zzy (n:Nat){m:zcc}(hm:zdf m):zal P (n+8) 13 [m.d] M=.ok .non M:=by
 refine zav (zay h.need_machine rfl ?_)
 simp [zc9,znd h.q n (zkp hm) (by decide),zjx hm]
theorem z3f (n:Nat){m:zcc}{i:Nat}(hi:i<m.deeds.length):zal P (n+2) 16 [m.d,nD i] M=.ok (.bl true) M:=by
 refine zav (zay h.is_deed_number rfl ?_)
 simp [zd4,zcc.d,ixN,zvl h]
 omega
theorem zvi (n:Nat){m:zcc}{x:D}{r:List Nat}(hx:zgi M x r)(hr:∀i∈r,i<m.deeds.length):zal P (n+3) 17 [m.d,x] M=.ok .non M:=by
 refine zav (zay h.need_numbers rfl ?_)
 obtain ⟨i1,i2,i3⟩:=hx.is
 simp [zco,i1,i2,i3]
 refine zgu (ds:=zdd 0 (r.map nD)) (fun i Z M'=>M'=M/\∃a b,Z=[some m.d,some x,a,b]) (fun _ _ _ e=>by rw [e.1,hx.seq];rfl) ⟨rfl,none,none,rfl⟩ ?_ ?_
 ·rintro i d Z M' hd ⟨rfl,a,b,rfl⟩
  rw [zeb] at hd
  rw [List.getElem?_map] at hd
  cases e:r[i]? with
  |none=>rw [e] at hd;cases hd
  | some x =>
    rw [e] at hd
    simp at hd
    subst hd
    refine ⟨_,rfl,?_⟩
    simp [z3f h n (hr x (List.mem_of_getElem? e))]
 ·rintro Z M' ⟨rfl,a,b,rfl⟩
  simp
theorem zqh (n:Nat){m:zcc}{x:D}{r:List Nat}(hx:zgi M x r)(hm:zdf m)(hr:ziw m r):zal P (n+9) 18 [m.d,x] M=.ok .non M:=by
 have e:=zvi h (n+5) (m:=m) hx hr.2
 refine zav (zay h.need_row rfl ?_)
 simp [zdo,zzy h n hm,e]
 rw [hx.len]
 have:=hr.1
 simp
 omega
theorem sp_row (n:Nat){m:zcc}{r:List Nat}(hm:zdf m)(hr:ziw m r):zal P (n+9) 18 [m.d,rowD r] M=.ok .non M:=zqh h n .l hm hr
theorem zlw (h47:P 47=some ⟨2,2,zdh⟩)(n:Nat){m:zcc}{x:D}{r:List Nat}(hx:zgi M x r)(hl:r.length<=100000)(hr:∀i∈r,i<m.deeds.length):zal P (n+1) 47 [m.d,x] M=.ok (nD (zoy m r)) M:=by
 refine zav (zay h47 rfl ?_)
 simp [zdh,hx.is]
 refine zj3 (ds:=r.map nD) (fun d=>match d with|.int i=>nD (ziy m i.toNat).cost|_=>.non) (zax (by simp;omega)) hx.seq ?_ ?_
 ·intro d hd
  obtain ⟨x,hx,rfl⟩:=List.mem_map.mp hd
  refine ⟨_,rfl,zav ?_⟩
  simp [-zpu,md2,z1t (hr x hx),zqt]
 ·obtain ⟨bs,e1,e2⟩:=ztm (fun i=>(ziy m i).cost) r
  refine ⟨?_,bs,?_,?_,rfl⟩
  ·simp
   exact zax (by omega)
  ·simpa [Function.comp_def] using e1
  ·exact e2
theorem zvk (h19:P 19=some ⟨2,2,zhg⟩)(h47:P 47=some ⟨2,2,zdh⟩)(n:Nat){m:zcc}{x:D}{r:List Nat}(hx:zgi M x r)(hm:zdf m)(hr:ziw m r):zal P (n+10) 19 [m.d,x] M=.ok (nD (zoy m r)) M:=by
 refine zav (zay h19 rfl ?_)
 simp [zhg,zqh h n hx hm hr,zlw h h47 (n+8) hx (tqh hr.1 (by decide)) hr.2]
theorem z3g (h19:P 19=some ⟨2,2,zhg⟩)(h47:P 47=some ⟨2,2,zdh⟩)(n:Nat){m:zcc}{r:List Nat}(hm:zdf m)(hr:ziw m r):zal P (n+10) 19 [m.d,rowD r] M=.ok (nD (zoy m r)) M:=zvk h h19 h47 n .l hm hr
end
end LD
namespace LD
open PySem
@[simp] theorem z1i {j:Nat}{M:Mem}{k:D->Mem->Prop}:okE (zff .len [.cell j] M) k↔∃ds,M[j]?=some ds/\k (.int ds.length) M:=by
 show okE (match M[j]? with|some xs=>_|none=>_) k↔_
 cases M[j]?<;>simp
structure za3 (M:Mem) (p B:Nat):Prop where
 ex:∃(c:Nat) (cells:List Int) (at_ st:Int),M[p]?=some [.cell c,.int at_,.int st]/\M[c]?=some (cells.map D.int)/\c<p/\0<=at_/\at_<=B/\0<=st
structure zbv (p:Nat) (M M':Mem):Prop where
 len:M.length<=M'.length
 at':∀k,k<M.length->k≠p->M'[k]?=M[k]?
theorem zbv.refl {p:Nat}{M:Mem}:zbv p M M:=⟨tqg _,fun _ _ _=>rfl⟩
theorem zbv.trans {p:Nat}{M M1 M2:Mem}(a:zbv p M M1)(b:zbv p M1 M2):zbv p M M2:=⟨tqh a.len b.len,fun k hk n=>(b.at' k (tqi hk a.len) n).trans (a.at' k hk n)⟩
theorem zbv.set {p:Nat}{M:Mem}{ds:List D}:zbv p M (M.set p ds):=⟨by simp,fun k _ n=>List.getElem?_set_ne (Ne.symm n)⟩
theorem zbv.app {p:Nat}{M X:Mem}:zbv p M (M++X):=⟨by simp,fun k hk _=>List.getElem?_append_left hk⟩
theorem zbv.get {p k:Nat}{M M':Mem}{ds:List D}(h:zbv p M M')(e:M[k]?=some ds)(n:k≠p):M'[k]?=some ds:=by rw [h.at' k (List.getElem?_eq_some_iff.mp e).1 n];exact e
theorem za3.lt {M:Mem}{p B:Nat}(h:za3 M p B):p<M.length:=by obtain ⟨_,_,_,_,e,_⟩:=h.ex;exact (List.getElem?_eq_some_iff.mp e).1
theorem za3.app {M X:Mem}{p B:Nat}(h:za3 M p B):za3 (M++X) p B:=by
 obtain ⟨c,cells,a,st,e1,e2,r⟩:=h.ex
 exact ⟨c,cells,a,st,by rw [List.getElem?_append_left (List.getElem?_eq_some_iff.mp e1).1];exact e1,by rw [List.getElem?_append_left (List.getElem?_eq_some_iff.mp e2).1];exact e2,r⟩
theorem za3.mono {M:Mem}{p B B':Nat}(h:za3 M p B)(hb:B<=B'):za3 M p B':=by
 obtain ⟨c,cells,a,st,e1,e2,e3,e4,e5,e6⟩:=h.ex
 exact ⟨c,cells,a,st,e1,e2,e3,e4,by omega,e6⟩
theorem za3.setq {M:Mem}{p q B:Nat}{ds:List D}(h:za3 M p B)(hq:p<q):za3 (M.set q ds) p B:=by
 obtain ⟨c,cells,a,st,e1,e2,e3,e4,e5,e6⟩:=h.ex
 exact ⟨c,cells,a,st,by rw [List.getElem?_set_ne (by omega)];exact e1,by rw [List.getElem?_set_ne (by omega)];exact e2,e3,e4,e5,e6⟩
theorem zbv.setq {p q:Nat}{M M':Mem}{ds:List D}(h:zbv p M M')(hq:M.length<=q):zbv p M (M'.set q ds):=⟨by simpa using h.len,fun k hk n=>by rw [List.getElem?_set_ne (by omega)];exact h.at' k hk n⟩
theorem zyh {a b A B:Int}(h1:0<=a)(h2:a<=A)(h3:0<=b)(h4:b<=B):0<=a*b/\a*b<=A*B:=
 ⟨Int.mul_nonneg h1 h3,Int.mul_le_mul h2 h4 h3 (Int.le_trans h1 h2)⟩
def z30:List D:=[.int 2147483629,.int 2147483587,.int 2147483579,.int 2147483563,.int 2147483549,.int 2147483543,.int 2147483497,.int 2147483489,.int 2147483477,.int 2147483423,.int 2147483399,.int 2147483353,.int 2147483323]
theorem znk (j:Int)(M:Mem):∃q:Int,zf6 (.lst z30) (.int (j % 13)) M=some (.int q)/\0<q/\q<2147483648:=by
 have h1:0<=j % 13:=Int.emod_nonneg _ (by decide)
 have h2:j % 13<13:=Int.emod_lt_of_pos _ (by decide)
 generalize j % 13=i at h1 h2
 have:i=0\/i=1\/i=2\/i=3\/i=4\/i=5\/i=6\/i=7\/i=8\/i=9\/i=10\/i=11\/i=12:=by omega
 rcases this with rfl|rfl|rfl|rfl|rfl|rfl|rfl|rfl|rfl|rfl|rfl|rfl|rfl<;>exact ⟨_,rfl,by decide,by decide⟩
section
variable {P:Nat->Option Df}(h:HasP0 P){M:Mem}
include h
theorem zxj (n:Nat){x a:Int}(h0:0<=a)(h1:a<=1000000):okE (zal P (n+1) 28 [.int x,.int a] M) fun d M'=>M'=M/\∃v:Int,d=.int v/\0<=v:=by
 refine zay h.law_spread rfl ?_
 simp [-zu5,zgg]
 by_cases hx:(1000000000000000000:Int)<=x
 ·exact .inr ⟨hx,by omega⟩
 ·have r1:=Int.emod_nonneg x (show (1000000007:Int)≠0 by decide)
  have r2:=Int.emod_lt_of_pos x (show (0:Int)<1000000007 by decide)
  have r3:=Int.emod_nonneg x (show (65537:Int)≠0 by decide)
  have r4:=Int.emod_lt_of_pos x (show (0:Int)<65537 by decide)
  obtain ⟨m1,m2⟩:=zyh r1 (Int.le_of_lt r2) (show 0<=2*a+69069 by omega) (show 2*a+69069<=2069069 by omega)
  refine .inl ⟨by omega,by decide,by decide,by decide,.inl ⟨by omega,by omega⟩,by omega,?_⟩
  obtain ⟨q1,e1,p1,p2⟩:=znk a M
  refine ⟨.int q1,e1,?_⟩
  generalize (x % 1000000007*(2*a+69069)+a*40503+977)^3=y1
  have b1:=Int.emod_nonneg y1 (show q1≠0 by omega)
  have b2:=Int.emod_lt_of_pos y1 p1
  generalize hz1:y1 % q1=one at b1 b2
  obtain ⟨m3,m4⟩:=zyh b1 (show one<=2147483648 by omega) (show 0<=a+3 by omega) (show a+3<=1000003 by omega)
  simp only [zon,ztf,zft,zsq,hz1]
  refine ⟨p1,.inr ⟨by omega,by omega⟩,⟨by decide,by decide,by omega⟩,?_⟩
  obtain ⟨q2,e2,p3,p4⟩:=znk (a+5) M
  refine ⟨.int q2,e2,?_⟩
  generalize (one*(a+3)+x % 65537+5)^(5:Int).toNat=y2
  have b3:=Int.emod_nonneg y2 (show q2≠0 by omega)
  have b4:=Int.emod_lt_of_pos y2 p3
  generalize hz2:y2 % q2=two at b3 b4
  have r5:=Int.emod_nonneg one (show (1009:Int)≠0 by decide)
  have r6:=Int.emod_lt_of_pos one (show (0:Int)<1009 by decide)
  simp only [zon,ztf,zft,zsq,hz2]
  refine ⟨p3,by decide,⟨by decide,by decide,by omega⟩,?_⟩
  obtain ⟨q3,e3,p5,p6⟩:=znk (a+7) M
  refine ⟨.int q3,e3,?_⟩
  generalize (two+one % 1009+a)^(3:Int).toNat=y3
  have b5:=Int.emod_nonneg y3 (show q3≠0 by omega)
  simp only [zon,ztf,zft,zsq]
  refine ⟨p5,.inr ⟨by decide,by decide⟩,.inr ⟨by decide,by decide⟩,trivial,_,rfl,by omega⟩
omit h in
theorem ix30:ixN 3 0=some 0:=rfl
omit h in
theorem ix31:ixN 3 1=some 1:=rfl
omit h in
theorem ix32:ixN 3 2=some 2:=rfl
omit h in
theorem zps {l:List Int}{i:Int}(h0:0<=i)(h1:i<l.length):∃x,((ixN l.length i).bind fun j=>Option.map D.int l[j]?)=some (.int x):=by
 obtain ⟨k,rfl⟩:=Int.eq_ofNat_of_zero_le h0
 have hk:k<l.length:=by omega
 refine ⟨l[k],?_⟩
 rw [zg8 hk]
 simp [hk]
def zk1:GS:=zaf (za6 (.one 4) (zaq false .mod (za4 (zad 0) (gI 2)) (zad 1))) (zaf (zhr (zad 0) (gI 2) (zaq false .fdiv (za4 (zad 0) (gI 2)) (zad 1))) (zaf (zbb (zad 4)) zak))
def zo5 (c:Call):GS:=zaf (zhr (zad 0) (gI 1) (zaq false .add (zad 2) (gI 1))) (zaf (zhr (zad 0) (gI 2) (zao 28 c (zaa (zad 3) (zaa (zad 2) zaj)))) zak)
omit h in
theorem zqe {M M1:Mem}{p c many B:Nat}{cells:List Int}{a st:Int}{x y:Option D}(e1:M1[p]?=some [.cell c,.int a,.int st])(e2:M1[c]?=some (cells.map D.int))(lt:c<p)(a0:0<=a)(aB:a<=(B+1:Nat))(s0:0<=st)(k:zbv p M M1)
 (h0:0<many) (h1:many<=10000000):okE (zk1 [some (.cell p),some (nD many),x,y,none] M1) (zhb fun d M'=>∃v:Nat,d=nD v/\v<many/\za3 M' p (B+1)/\zbv p M M'):=by
 have hp:p<M1.length:=(List.getElem?_eq_some_iff.mp e1).1
 have ne:c≠p:=tqk lt
 have b0:(0:Int)<(many:Int):=by omega
 have r1:=Int.emod_nonneg st (show (many:Int)≠0 by omega)
 have r2:=Int.emod_lt_of_pos st b0
 simp [zk1,e1,ixN]
 refine ⟨by omega,by omega,(st % many).toNat,by omega,by omega,⟨c,cells,a,st / many,?_,?_,lt,a0,aB,Int.ediv_nonneg s0 (by omega)⟩,k.trans zbv.set⟩
 ·simp [hp]
 ·rw [List.getElem?_set_ne (Ne.symm ne)];exact e2
theorem zuo (n:Nat){p B many:Nat}(hp:za3 M p B)(hB:B<=1000000)(h0:0<many)(h1:many<=10000000):okE (zal P (n+2) 31 [.cell p,nD many] M) fun d M'=>∃v:Nat,d=nD v/\v<many/\za3 M' p (B+1)/\zbv p M M':=by
 obtain ⟨c,cells,a,st,e1,e2,lt,a0,aB,s0⟩:=hp.ex
 have ne:c≠p:=tqk lt
 have hpl:p<M.length:=(List.getElem?_eq_some_iff.mp e1).1
 refine zay h.law_take rfl ?_
 show okE (zaf (zbc _ (zaf _ (zaf _ (zaf _ (zo5 (zal P (n+1)))))) _) zk1 [some (.cell p),some (nD many),none,none,none] M) _
 have mid:∀(x:Int),okE (zo5 (zal P (n+1)) [some (.cell p),some (nD many),some (.int a),some (.int x),none] M) (zk0 zk1 (zhb fun d M'=>∃v:Nat,d=nD v/\v<many/\za3 M' p (B+1)/\zbv p M M')):=by
  intro x
  unfold zo5
  simp [e1,ixN]
  refine zbo (zxj h n (x:=x) (a:=a) a0 (by omega)) fun d M' ⟨e,v,ev,v0⟩=>?_
  subst e ev
  refine ⟨[.cell c,.int (a+1),.int st],by simp [hpl],2,by simp,?_⟩
  have k1:zbv p M ((M.set p [.cell c,.int (a+1),.int st]).set p ([.cell c,.int (a+1),.int st].set 2 (.int v))):=zbv.set.trans zbv.set
  refine zqe (c:=c) (cells:=cells) (a:=a+1) (st:=v) ?_ ?_ lt (by omega) (by omega) v0 k1 h0 h1
  ·simp [hpl]
  ·rw [List.getElem?_set_ne (Ne.symm ne),List.getElem?_set_ne (Ne.symm ne)];exact e2
 have c0:(0:Int)<=(cells.length:Int):=by omega
 simp [e1,e2,ix30,ix31,ix32,nD]
 by_cases c1:st<many
 ·refine .inr ⟨c1,?_⟩
  by_cases c2:a<(cells.length:Int)
  ·obtain ⟨x,ex⟩:=zps a0 c2
   exact .inr ⟨c2,_,ex,mid x⟩
  ·refine .inl ⟨by omega,?_⟩
   by_cases c3:cells=[]
   ·exact .inl ⟨c3,mid 0⟩
   ·have c4:0<cells.length:=List.length_pos_iff.mpr c3
    have r1:=Int.emod_nonneg (a*5+3) (show (cells.length:Int)≠0 by omega)
    have r2:=Int.emod_lt_of_pos (a*5+3) (show (0:Int)<(cells.length:Int) by omega)
    obtain ⟨x,ex⟩:=zps r1 r2
    refine .inr ⟨c4,_,ex,?_⟩
    simp only [zon]
    exact ⟨by omega,mid _⟩
 ·refine .inl ⟨by omega,?_⟩
  exact zqe e1 e2 lt a0 (by omega) s0 .refl h0 h1
end
end LD
namespace LD
open PySem
def zb0.withC:zb0->Nat->zb0
 |.turn a t _,c=>.turn a t c
 |.join a o t _,c=>.join a o t c
 |.move a o _,c=>.move a o c
 |.put a x _,c=>.put a x c
theorem zzm {w p c:Nat}{d:zb0}(h:ze7 w p d)(hc:zfv c):ze7 w p (d.withC c):=by
 cases d with
 |turn=>exact ⟨h.1,h.2.1,hc⟩
 |join=>exact ⟨h.1,h.2.1,h.2.2.1,hc⟩
 |move=>exact ⟨h.1,h.2.1,hc⟩
 |put=>exact ⟨h.1,h.2.1,hc⟩
theorem z5d {w p:Nat}{d:zb0}(h:ze7 w p d):zfv d.cost:=by
 cases d with
 |turn=>exact h.2.2
 |join=>exact h.2.2.2
 |move=>exact h.2.2
 |put=>exact h.2.2
theorem z15 {d:zb0}{c:Nat}{M:Mem}{k:D->Mem->Prop}(hk:k (d.withC c).d M):okE (zew false d.d .non (.int (-1)) M) fun x M=>okE (zei false .add x (.tup [nD c]) M) k:=by
 cases d<;>(simp [zb0.d,zew,sIx,cut];exact ⟨by decide,hk⟩)
theorem zzu (n:Nat)(d:zb0):zas (n+3) d.d=true:=by
 have tp:∀(n:Nat) (l:List Nat),(l.map nD).all (zas n)=true:=fun n l=>by
  rw [List.all_eq_true];intro x hx;obtain ⟨i,_,rfl⟩:=List.mem_map.mp hx;cases n<;>rfl
 cases d with
 |turn a t c=>simp [zb0.d,zas,zgn,nD];decide +kernel
 |join a o t c=>simp [zb0.d,zas,nD,zgn];decide +kernel
 |move a o c=>simp [zb0.d,zas,nD];decide +kernel
 |put a x c=>simp [zb0.d,zas,nD];decide +kernel
theorem ne_nil {M:Mem}{q:Nat}{ds:List zb0}(e:M[q]?=some (ds.map zb0.d)):zb2 .ne (.cell q) (.lst []) M=some (!ds.isEmpty):=by
 have hp:(ds.map zb0.d).all (zas 63)=true:=by
  rw [List.all_eq_true];intro x hx;obtain ⟨d,_,rfl⟩:=List.mem_map.mp hx;exact zzu 60 d
 have hv:view M (.cell q)=.lst (ds.map zb0.d):=by simp [view,e]
 have h1:zas 64 (.lst (ds.map zb0.d))=true:=hp
 refine zmy (by rw [hv];exact h1) rfl ?_
 rw [hv]
 cases ds<;>rfl
@[simp] theorem mul_ti {m:Bool}{x:List D}{j:Int}{M:Mem}{k:D->Mem->Prop}:okE (zei m .mul (.tup x) (.int j) M) k↔(x.length*j.toNat<=sz/\-(2^63)<=j/\j<2^63)/\k (.tup (List.replicate j.toNat x).flatten) M:=zjh
@[simp] theorem mul_li {m:Bool}{x:List D}{j:Int}{M:Mem}{k:D->Mem->Prop}:okE (zei m .mul (.lst x) (.int j) M) k↔(x.length*j.toNat<=sz/\-(2^63)<=j/\j<2^63)/\okE (zb6 m (List.replicate j.toNat x).flatten M) k:=zjh
theorem zsd {xs:List D}{a:Nat}{M:Mem}{k:D->Mem->Prop}:okE (zew false (.lst xs) .non (.int a) M) k↔(xs.take a).length<=sz/\k (.lst (xs.take a)) M:=by
 have e:cut xs 0 (min a xs.length)=xs.take a:=by
  unfold cut
  rcases Nat.le_total a xs.length with h|h
  ·rw [Nat.min_eq_left h];simp
  ·rw [Nat.min_eq_right h];simp [List.take_of_length_le h]
 show okE (match sIx xs.length 0 D.non,sIx xs.length xs.length (.int a) with|some l,some h=>zb6 false (cut xs l h) M|_,_=>.bad) k↔_
 have e2:sIx xs.length xs.length (.int a)=some (min a xs.length):=by
  show some _=_
  rw [if_neg (by omega)];simp
 rw [e2]
 show okE (zb6 false (cut xs 0 (min a xs.length)) M) k↔_
 rw [e,zcn]
theorem zse {xs:List D}{a:Nat}{M:Mem}{k:D->Mem->Prop}:okE (zew false (.lst xs) (.int a) .non M) k↔(xs.drop a).length<=sz/\k (.lst (xs.drop a)) M:=by
 have e:cut xs (min a xs.length) xs.length=xs.drop a:=by
  unfold cut
  rcases Nat.le_total a xs.length with h|h
  ·rw [Nat.min_eq_left h,List.take_of_length_le (by simp)]
  ·rw [Nat.min_eq_right h];simp [List.drop_eq_nil_of_le h]
 show okE (match sIx xs.length 0 (.int a),sIx xs.length xs.length D.non with|some l,some h=>zb6 false (cut xs l h) M|_,_=>.bad) k↔_
 have e2:sIx xs.length 0 (.int a)=some (min a xs.length):=by
  show some _=_
  rw [if_neg (by omega)];simp
 rw [e2]
 show okE (zb6 false (cut xs (min a xs.length) xs.length) M) k↔_
 rw [e,zcn]
theorem zty {w:Nat}{ge:GE}{Z:Env}{M:Mem}{kl:List D->Mem->Prop}(f:Nat->Nat)(hw:w<=100)(hf:∀k,k<w->ge (some (.int (k:Int))::Z) M=.ok (nD (f k)) M)(hk:kl (((List.range w).map f).map nD) M) :
 okE (zej (zfg (.one 0) (zc5 ge) (none::Z)) (fun _=>some ((List.range w).map fun (k:Nat)=>D.int (k:Int))) [] M) kl:=by
 refine zj3 (ds:=(List.range w).map fun (k:Nat)=>D.int (k:Int)) (fun d=>match d with|.int i=>nD (f i.toNat)|_=>.non) (zax (by simp;omega)) rfl (fun d hd=>?_) ?_
 ·obtain ⟨k,hk,rfl⟩:=List.mem_map.mp hd
  exact ⟨_,rfl,hf k (List.mem_range.mp hk)⟩
 ·simpa [Function.comp_def] using hk
theorem zun {w:Nat}{f:Nat->Nat}(hf:∀k,k<w->f k<w):ziv w ((List.range w).map f):=⟨by simp,fun x hx=>by
 obtain ⟨k,hk,rfl⟩:=List.mem_map.mp hx
 exact hf k (List.mem_range.mp hk)⟩
section
variable {P:Nat->Option Df}(h:HasP0 P){M:Mem}
include h
theorem z3h (n:Nat){p B:Nat}(hp:za3 M p B):okE (zal P (n+1) 30 [.cell p] M) fun d M'=>d=.cell p/\za3 M' p B/\zbv p M M':=by
 obtain ⟨c,cells,a,st,e1,e2,lt,a0,aB,s0⟩:=hp.ex
 have ne:c≠p:=tqk lt
 have hpl:p<M.length:=(List.getElem?_eq_some_iff.mp e1).1
 refine zay h.law_anew rfl ?_
 simp [zh4,e1,ix32]
 refine ⟨⟨c,cells,a,0,by simp [hpl],?_,lt,a0,aB,by omega⟩,zbv.set⟩
 rw [List.getElem?_set_ne (Ne.symm ne)];exact e2
theorem tk (n:Nat){p B many:Nat}{k:D->Mem->Prop}(hp:za3 M p B)(hB:B<=1000000)(h0:0<many)(h1:many<=10000000)(hk:∀(v:Nat) (M':Mem),v<many->za3 M' p (B+1)->zbv p M M'->k (nD v) M'):okE (zal P (n+2) 31 [.cell p,nD many] M) k:=
 zbo (zuo h n hp hB h0 h1) fun d M' ⟨v,e,hv,hp',hk'⟩=>by subst e;exact hk v M' hv hp' hk'
end
theorem bd {B c k m:Nat}(h:B<=c)(e:c+k<=m):B+k<=m:=tqh (Nat.add_le_add_right h k) e
theorem le_k {B k m:Nat}(e:k<=m):B+k<=B+m:=Nat.add_le_add_left e B
theorem zmn {xs:List D}{v:Nat}{M:Mem}(h:v<xs.length):zf6 (.lst xs) (nD v) M=some xs[v]:=by
 show (ixN xs.length (v:Int)).bind (fun j=>xs[j]?)=_
 rw [zg8 h]
 simp [h]
theorem zv8 {Z:Env}{M:Mem}{j v c:Nat}(h:Z[j]?.getD none=some (nD v)):(zau (za9 .lt (zad j) (gC (.int (c:Int)))):GT) Z M=.ok (decide (v<c)) M:=by
 refine za2 ?_
 simp only [zio,zh2,zbp,e_c]
 refine ⟨_,h,_,rfl,_,rfl,?_,trivial⟩
 simp
theorem zll {Z:Env}{M:Mem}{j v c:Nat}(h:Z[j]?.getD none=some (nD v)):(zau (za9 .eq (zad j) (gC (.int (c:Int)))):GT) Z M=.ok ((v:Int)==(c:Int)) M:=by
 refine za2 ?_
 simp only [zio,zh2,zbp,e_c]
 exact ⟨_,h,_,rfl,_,rfl,rfl,trivial⟩
section
variable {Z:Env}{M:Mem}{g a:GE}{rest:GS}{kf:Fl->Mem->Prop}
section
variable {P:Nat->Option Df}(hp_:HasP0 P)(n:Nat){i j p B many:Nat}(hj:Z[j]?.getD none=some (.cell p))(hg:g Z M=.ok (nD many) M)(hp:za3 M p B)(hB:B<=1000000)(h0:0<many)(h1:many<=10000000)
include hp_ hj hg hp hB h0 h1
theorem zjp:okE (zao 31 (zal P (n+2)) (zaa (zad j) (zaa g zaj)) Z M) fun d M'=>∃v:Nat,d=nD v/\v<many/\za3 M' p (B+1)/\zbv p M M':=by
 rw [zcx (zaw (zbl hj) (zaw hg rfl))]
 exact zuo hp_ n hp hB h0 h1
theorem zfk (hk:∀(v:Nat) (M':Mem),v<many->za3 M' p (B+1)->zbv p M M'->okE (rest (Z.set i (some (nD v))) M') kf):okE (zaf (za6 (.one i) (zao 31 (zal P (n+2)) (zaa (zad j) (zaa g zaj)))) rest Z M) kf:=by
 refine zd2 (zjp hp_ n hj hg hp hB h0 h1) ?_
 rintro x M' ⟨v,rfl,a,b,c⟩
 exact hk v M' a b c
theorem z1s {xs:List D}(hl:a Z M=.ok (.lst xs) M)(hz:xs.length=many):okE (za4 a (zao 31 (zal P (n+2)) (zaa (zad j) (zaa g zaj))) Z M) fun d M'=>d∈xs/\za3 M' p (B+1)/\zbv p M M':=by
 unfold za4
 rw [hl,zby,zjw,zby]
 refine zbo (zjp hp_ n hj hg hp hB h0 h1) ?_
 rintro x M' ⟨v,rfl,a,b,c⟩
 rw [zmn (by omega)]
 exact ⟨List.getElem_mem _,b,c⟩
end
end
section
variable {Z:Env}{M:Mem}{k:D->Mem->Prop}
theorem zjc {e:GE}{K:Fl->Mem->Prop}(h:okE (e Z M) fun x M=>K (.ret x) M):okE (zaf (zbb e) zak Z M) K:=by
 simp only [za5,zcy]
 exact h
theorem zyi {e:GE}{j v w:Nat}(he:e Z M=.ok (nD v) M)(hj:Z[j]?.getD none=some (nD w))(hw:0<w):zaq false .mod e (zad j) Z M=.ok (nD (v % w)) M:=by
 unfold zaq
 rw [he]
 show (zad j Z M).bind _=_
 rw [zbl hj]
 show (if (0:Int)<(w:Int) then Res.ok (D.int ((v:Int) % (w:Int))) M else .bad)=_
 rw [if_pos (by omega)]
 rfl
theorem zp5 {e f:GE}{v w:Nat}(he:e Z M=.ok (nD v) M)(hf:f Z M=.ok (nD w) M):zaq false .add e f Z M=.ok (nD (v+w)) M:=by
 unfold zaq
 rw [he]
 show (f Z M).bind _=_
 rw [hf]
 rfl
theorem sub_at {e:GE}{v c:Nat}(he:e Z M=.ok (nD v) M)(hc:c<=v):zaq false .sub e (gC (.int (c:Int))) Z M=.ok (nD (v-c)) M:=by
 unfold zaq
 rw [he]
 show Res.ok (D.int ((v:Int)-(c:Int))) M=_
 rw [<- Int.ofNat_sub hc]
end
section
variable {P:Nat->Option Df}(h:HasP P){M:Mem}
include h
theorem zxi (n:Nat){p B w:Nat}(hp:za3 M p B)(hB:B<=900000)(w2:2<=w)(w4:w<=4):okE (zal P (n+3) 32 [.cell p,nD w] M) fun d M'=>∃t,d=zgn t/\ziv w t/\za3 M' p (B+7)/\zbv p M M':=by
 have w0:0<w:=tqi (by decide) w2
 have wM:w<=10000000:=tqh w4 (tqq rfl)
 refine zay h.law_tab rfl ?_
 show okE (zhh (zal P (n+2)) [some (.cell p),some (nD w),none,none,none,none] M) _
 unfold zhh
 refine zfk h n (many:=6) rfl rfl hp (tqh hB (by decide)) (by decide) (by decide) fun kind M1 hk p1 k1=>?_
 refine zfk h n (many:=w) rfl rfl p1 (bd (k:=1) hB (by decide)) w0 wM fun word M2 hw p2 k2=>?_
 refine zfk h n (many:=w) rfl rfl p2 (bd (k:=2) hB (by decide)) w0 wM fun other M3 ho p3 k3=>?_
 have K3:=(k1.trans k2).trans k3
 have fin:∀(l:List Nat) (M':Mem),ziv w l->za3 M' p (B+7)->zbv p M M'->(l.map nD).length<=sz/\∃t,D.tup (l.map nD)=zgn t/\ziv w t/\za3 M' p (B+7)/\zbv p M M':=fun l M' hl hp' hk'=>⟨zax (by rw [List.length_map,hl.1];omega),l,rfl,hl,hp',hk'⟩
 have p7:za3 M3 p (B+7):=p3.mono (le_k (k:=3) (by decide))
 show okE (zaf _ _ [some (.cell p),some (nD w),some (nD kind),some (nD word),some (nD other),none] M3) _
 refine zd3 (zv8 (c:=2) rfl) (fun _=>?_) fun _=>?_
 ·simp only [za5,zcy,zec,zbq,zbx,zjq,zkh,zbp]
  refine ⟨_,rfl,_,rfl,⟨by omega,by omega⟩,?_⟩
  refine comp_map (ds:=(List.range w).map fun (k:Nat)=>D.int (k:Int)) (fun i acc M'=>∃t:List Nat,acc=t.map nD/\(∀x∈t,x<w)/\za3 M' p (B+3+i)/\zbv p M M') (zax (by simp;omega)) (fun _ _ _ _=>rfl) ⟨[],rfl,(fun _ hx=>nomatch hx),p3,K3⟩ ?_ ?_
  ·rintro i d acc M' hd _ ⟨t,rfl,ht,hp',hk'⟩
   have hi:i<w:=by
    have:=(List.getElem?_eq_some_iff.mp hd).1
    simpa using this
   refine ⟨_,rfl,zbo (zjp h n (many:=w) rfl rfl hp' (by omega) w0 wM) ?_⟩
   rintro _ M4 ⟨v,rfl,hv,p4,k4⟩
   refine ⟨t++[v],by rw [List.map_append];rfl,fun x hx=>?_,p4,hk'.trans k4⟩
   rcases List.mem_append.mp hx with z|z
   ·exact ht x z
   ·rw [List.mem_singleton.mp z];exact hv
  ·rintro acc M' hl ⟨t,rfl,ht,hp',hk'⟩
   simp only [List.length_map,List.length_range] at hl hp'
   exact zcn.mpr (fin t M' ⟨hl,ht⟩ (hp'.mono (by omega)) hk')
 refine zd3 (zll (c:=2) rfl) (fun _=>?_) fun _=>?_
 ·simp only [za5,zcy,zec,zbq,zbx,zjq,zkh,zbp]
  refine ⟨_,rfl,_,rfl,⟨by omega,by omega⟩,?_⟩
  exact zty (fun k=>(k+1+word) % w) (by omega) (fun k hk=>zyi (zp5 (zp5 (zbl rfl) rfl) (zbl rfl)) rfl w0) (zcn.mpr (fin _ M3 (zun fun k _=>Nat.mod_lt _ w0) p7 K3))
 refine zd3 (zll (c:=3) rfl) (fun _=>?_) fun _=>?_
 ·simp only [za5,zcy,zec,zbq,zbx,zjq,zkh,zbp]
  refine ⟨_,rfl,_,rfl,⟨by omega,by omega⟩,?_⟩
  refine zty (fun k=>if k=word then other else k) (by omega) (fun k hk=>?_) (zcn.mpr (fin _ M3 (zun fun k hk=>by split<;>assumption) p7 K3))
  have e:(zau (za9 .eq (zad 0) (zad 4)):GT) [some (.int (k:Int)),some (.cell p),some (nD w),some (nD kind),some (nD word),some (nD other),none] M3=.ok ((k:Int)==(word:Int)) M3:=rfl
  by_cases ck:k=word
  ·rw [if_pos ck]
   exact zhv (k:=true) (e.trans (by rw [ck,beq_self_eq_true])) (fun _=>rfl) (fun z=>nomatch z)
  ·rw [if_neg ck]
   exact zhv (k:=false) (e.trans (by rw [beq_eq_false_iff_ne.mpr (by omega)])) (fun z=>nomatch z) (fun _=>rfl)
 refine zd3 (zll (c:=4) rfl) (fun _=>zjc ?_) fun _=>?_
 ·simp only [ze1,ziu,zbq,zbx,zbp]
  refine ⟨_,rfl,zax (n:=1) (by decide),_,rfl,mul_ti.mpr ⟨⟨zax (by simp;omega),by omega,by omega⟩,List.replicate w word,?_,⟨List.length_replicate,fun x hx=>by rw [List.eq_of_mem_replicate hx];exact hw⟩,p7,K3⟩⟩
  simp [zgn,nD]
 ·simp only [za5,zf9,z4z,zbp,s_put_,zcy,zec,zbq,zbx,zet]
  simp
  refine ⟨by omega,zax (by omega),word,zg8 hw,other,zg8 ho,((List.range w).set word other).set other word,?_,⟨by simp,fun x hx=>?_⟩,p7.app,K3.trans zbv.app⟩
  ·simp [zgn,nD,List.map_set]
  ·rcases List.mem_or_eq_of_mem_set hx with z|rfl
   ·rcases List.mem_or_eq_of_mem_set z with y|rfl
    ·exact List.mem_range.mp y
    ·exact ho
   ·exact hw
theorem zz2 (n:Nat){p B w pl:Nat}(hp:za3 M p B)(hB:B<=800000)(w2:2<=w)(w4:w<=4)(p1:1<=pl)(p2:pl<=2):okE (zal P (n+4) 33 [.cell p,nD w,nD pl] M) fun d M'=>∃e:zb0,d=e.d/\ze7 w pl e/\za3 M' p (B+40)/\zbv p M M':=by
 have pM:pl<=10000000:=tqh p2 (tqq rfl)
 refine zay h.law_deed rfl ?_
 show okE (zgb (zal P (n+3)) [some (.cell p),some (nD w),some (nD pl),none,none,none,none] M) _
 unfold zgb
 refine zfk h (n+1) (many:=8) rfl rfl hp (tqh hB (by decide)) (by decide) (by decide) fun kind M1 hk q1 k1=>?_
 refine zd2 (k:=fun d M'=>∃v:Nat,d=nD (1+v)/\v<3/\za3 M' p (B+2)/\zbv p M1 M') ?_ ?_
 ·rw [ze1]
  simp only [e_c]
  refine zbo (zjp h (n+1) (many:=3) rfl rfl q1 (bd (k:=1) hB (by decide)) (by decide) (by decide)) ?_
  rintro _ M2 ⟨v,rfl,hv,q,kk⟩
  exact zft.mpr ⟨v,by show D.int (1+(v:Int))=D.int ((1+v:Nat):Int);rw [Int.natCast_add];rfl,hv,q,kk⟩
 rintro _ M2 ⟨price,rfl,hc,q2,k2⟩
 refine zfk h (n+1) (many:=pl) rfl rfl q2 (bd (k:=2) hB (by decide)) p1 pM fun at_ M3 ha q3 k3=>?_
 refine zfk h (n+1) (many:=pl) rfl rfl q3 (bd (k:=3) hB (by decide)) p1 pM fun other M4 ho q4 k4=>?_
 have K4:=((k1.trans k2).trans k3).trans k4
 have co:zfv (1+price):=⟨by omega,by omega⟩
 have q40:za3 M4 p (B+40):=q4.mono (le_k (k:=4) (by decide))
 show okE (zaf _ _ [some (.cell p),some (nD w),some (nD pl),some (nD kind),some (nD (1+price)),some (nD at_),some (nD other)] M4) _
 refine zd3 (zv8 (c:=3) rfl) (fun _=>zjc ?_) fun _=>?_
 ·simp only [ziu,zbq,zbx,e_c,zbp,zen]
  refine ⟨_,rfl,_,rfl,_,rfl,zbo (zxi h n q4 (bd (k:=4) hB (by decide)) w2 w4) fun d M' ⟨t,e,ht,hp',hk'⟩=>⟨_,rfl,zax (n:=4) (by decide),.turn at_ t (1+price),?_,⟨ha,ht,co⟩,hp'.mono (le_k (k:=11) (by decide)),K4.trans hk'⟩⟩
  subst e;rfl
 refine zd3 (zv8 (c:=5) rfl) (fun _=>zjc ?_) fun _=>?_
 ·obtain ⟨o,eo,ho'⟩:∃o:Nat,ze0 (zau (za9 .eq (zad 3) (gI 3))) (zaq false .mod (zaq false .add (zad 5) (gI 1)) (zad 2)) (zad 6) [some (.cell p),some (nD w),some (nD pl),some (nD kind),some (nD (1+price)),some (nD at_),some (nD other)] M4=.ok (nD o) M4/\o<pl:=by
   have e:(zau (za9 .eq (zad 3) (gI 3)):GT) [some (.cell p),some (nD w),some (nD pl),some (nD kind),some (nD (1+price)),some (nD at_),some (nD other)] M4=.ok ((kind:Int)==3) M4:=zll (c:=3) rfl
   cases q:(kind:Int)==3 with
   |true=>rw [q] at e;exact ⟨(at_+1) % pl,zhv e (fun _=>zyi (w:=pl) (zp5 (v:=at_) (w:=1) (zbl rfl) rfl) rfl p1) (fun z=>nomatch z),Nat.mod_lt _ p1⟩
   |false=>rw [q] at e;exact ⟨other,zhv e (fun z=>nomatch z) (fun _=>zbl rfl),ho⟩
  simp only [ziu,zbq,zbx,e_c,zbp]
  refine ⟨_,rfl,?_⟩
  rw [eo,zjw]
  exact ⟨_,rfl,zax (n:=4) (by decide),.move at_ o (1+price),rfl,⟨ha,ho',co⟩,q40,K4⟩
 refine zd3 (zll (c:=5) rfl) (fun _=>zjc ?_) fun _=>?_
 ·simp only [ziu,zbq,zbx,e_c]
  show okE (zal P (n+3) 31 [.cell p,nD w] M4) _
  refine tk h (n+1) q4 (bd (k:=4) hB (by decide)) (tqi (by decide) w2) (tqh w4 (tqq rfl)) fun v M5 hv q5 k5=>?_
  exact ⟨zax (n:=4) (by decide),.put at_ v (1+price),rfl,⟨ha,hv,co⟩,q5.mono (le_k (k:=5) (by decide)),K4.trans k5⟩
 ·simp only [za5,zcy,ziu,zbq,zbx,e_c,zec,zjq,zkh,zbp]
  refine ⟨_,rfl,_,rfl,_,rfl,_,rfl,⟨by omega,by omega⟩,?_⟩
  refine comp_map (ds:=(List.range w).map fun (k:Nat)=>D.int (k:Int)) (fun i acc M'=>∃t:List (List Nat),acc=t.map zgn/\(∀x∈t,ziv w x)/\za3 M' p (B+4+i*7)/\zbv p M M') (zax (by simp;omega)) (fun _ _ _ _=>rfl) ⟨[],rfl,(fun _ hx=>nomatch hx),q4,K4⟩ ?_ ?_
  ·rintro i d acc M' hd _ ⟨t,rfl,ht,hp',hk'⟩
   have hi:i<w:=by
    have:=(List.getElem?_eq_some_iff.mp hd).1
    simpa using this
   refine ⟨_,rfl,?_⟩
   rw [zcx (zaw (zbl rfl) (zaw (zbl rfl) rfl))]
   refine zbo (zxi h n hp' (by omega) w2 w4) ?_
   rintro _ M4 ⟨v,rfl,hv,p4,k4⟩
   refine ⟨t++[v],by rw [List.map_append];rfl,fun x hx=>?_,p4.mono (by omega),hk'.trans k4⟩
   rcases List.mem_append.mp hx with z|z
   ·exact ht x z
   ·rw [List.mem_singleton.mp z];exact hv
  ·rintro acc M' hl ⟨t,rfl,ht,hp',hk'⟩
   simp only [List.length_map,List.length_range] at hl hp'
   exact zcn.mpr ⟨zax (by rw [List.length_map];omega),_,rfl,zax (n:=5) (by decide),.join at_ other t (1+price),rfl,⟨ha,ho,⟨hl,ht⟩,co⟩,hp'.mono (by omega),hk'⟩
theorem zvj (n:Nat){p B W Pl mo:Nat}(hp:za3 M p B)(hB:B<=700000)(W2:2<=W)(W4:W<=4)(P1:1<=Pl)(P2:Pl<=2)(m1:1<=mo)(m6:mo<=6):okE (zal P (n+5) 34 [.cell p,nD W,nD Pl,nD mo] M) fun d M'=>∃m:zcc,d=m.d/\zdf m/\m.words<=W/\m.places<=Pl/\m.deeds.length<=mo/\za3 M' p (B+300)/\zbv p M M':=by
 refine zay h.law_machine rfl ?_
 show okE (zeq (zal P (n+4)) [some (.cell p),some (nD W),some (nD Pl),some (nD mo),none,none,none,none] M) _
 unfold zeq
 have plus:∀{Z:Env}{M:Mem}{g:GE}{B c many:Nat}{rest:GS}{K:Fl->Mem->Prop}{i:Nat},Z[0]?.getD none=some (.cell p)->g Z M=.ok (nD many) M->za3 M p B->B<=1000000->0<many->many<=10000000->(∀(v:Nat) (M':Mem),v<many->za3 M' p (B+1)->zbv p M M'->okE (rest (Z.set i (some (nD (c+v)))) M') K)->okE (zaf (za6 (.one i) (zaq false .add (gC (.int (c:Int))) (zao 31 (zal P (n+4)) (zaa (zad 0) (zaa g zaj))))) rest Z M) K:=by
  intro Z M g B c many rest K i e0 eg hp hB h0 h1 hk
  refine zd2 (k:=fun d M'=>∃v:Nat,d=nD (c+v)/\v<many/\za3 M' p (B+1)/\zbv p M M') ?_ ?_
  ·rw [ze1]
   simp only [e_c]
   refine zbo (zjp h (n+2) (many:=many) e0 eg hp hB h0 h1) ?_
   rintro _ M2 ⟨v,rfl,hv,q,kk⟩
   exact zft.mpr ⟨v,by show D.int ((c:Int)+(v:Int))=D.int ((c+v:Nat):Int);rw [Int.natCast_add],hv,q,kk⟩
  ·rintro _ M' ⟨v,rfl,a,b,c⟩
   exact hk v M' a b c
 refine plus (c:=2) (many:=W-1) rfl (sub_at (c:=1) (zbl rfl) (by omega)) hp (tqh hB (by decide)) (by omega) (by omega) fun w M1 hw q1 k1=>?_
 refine plus (c:=1) (many:=Pl) rfl (zbl rfl) q1 (bd (k:=1) hB (by decide)) P1 (tqh P2 (tqq rfl)) fun pl M2 hpl q2 k2=>?_
 have pl2:p<M2.length:=q2.lt
 have K2:=k1.trans k2
 have ML:M.length<=M2.length:=K2.len
 have w2:2<=2+w:=Nat.le_add_right _ _
 have w4:2+w<=4:=by omega
 have l1:1<=1+pl:=Nat.le_add_right _ _
 have l2:1+pl<=2:=by omega
 generalize hW:2+w=w' at w2 w4
 generalize hP:1+pl=p' at l1 l2
 refine zd2 (k:=fun d M'=>d=.cell M2.length/\M'=M2++[[]]) ?_ ?_
 ·simp only [zmu,zbx]
  exact zu1.mpr ⟨Nat.zero_le _,rfl,rfl⟩
 rintro _ _ ⟨rfl,rfl⟩
 show okE (zaf _ _ [some (.cell p),some (nD w'),some (nD p'),some (nD mo),some (.cell M2.length),none,none,none] (M2++[[]])) _
 simp only [za5,zh8,zkh,ze1,e_c]
 refine zbo (zjp h (n+2) (many:=mo) rfl rfl q2.app (bd (k:=2) hB (by decide)) m1 (tqh m6 (tqq rfl))) ?_
 rintro _ M3 ⟨many,rfl,hmany,q3,k3⟩
 have e3:M3[M2.length]?=some []:=k3.get (List.getElem?_concat_length) (by omega)
 have K3:zbv p M M3:=K2.trans (zbv.app.trans k3)
 generalize hq:M2.length=q at *
 refine zft.mpr ⟨_,rfl,⟨by omega,by omega⟩,?_⟩
 rw [show (1+(many:Int)).toNat=1+many by omega]
 refine zgu (ds:=(List.range (1+many)).map fun (k:Nat)=>D.int (k:Int)) (fun i Z M'=>∃ds:List zb0,M'[q]?=some (ds.map zb0.d)/\ds.length=i/\(∀d∈ds,ze7 w' p' d)/\za3 M' p (B+3+i*45)/\zbv p M M'/\∃a b c,Z=[some (.cell p),some (nD w'),some (nD p'),some (nD mo),some (.cell q),a,b,c])
  (fun _ _ _ _=>rfl) ⟨[],e3,rfl,(fun _ hd=>nomatch hd),q3,K3,none,none,none,rfl⟩ ?_ ?_
 ·rintro i d Z M' hd ⟨ds,e4,hl,hds,q4,K4,a,b,c,rfl⟩
  have hi:i<1+many:=by
   have:=(List.getElem?_eq_some_iff.mp hd).1
   simpa using this
  have hi6:i<=5:=by omega
  have hB4:B+3+i*45<=700228:=by omega
  have hqM:M.length<=q:=ML
  have hpq:p<q:=pl2
  refine ⟨_,rfl,?_⟩
  refine zfk h (n+2) (many:=5) rfl rfl q4 (tqh hB4 (by decide)) (by decide) (by decide) fun again M5 ha q5 k5=>?_
  have e5:=k5.get e4 (Nat.ne_of_gt hpq)
  refine zd2 (k:=fun d M'=>∃e:zb0,d=e.d/\ze7 w' p' e/\za3 M' p (B+3+i*45+41)/\zbv p M5 M') ?_ ?_
  ·rw [zcx (zaw (zbl rfl) (zaw (zbl rfl) (zaw (zbl rfl) rfl)))]
   exact zbo (zz2 h n (w:=w') (pl:=p') q5 (bd (k:=1) hB4 (by decide)) w2 w4 l1 l2) fun d M' ⟨e,a,b,c,d⟩=>⟨e,a,b,c,d⟩
  rintro _ M6 ⟨e,rfl,he,q6,k6⟩
  have e6:=k6.get e5 (Nat.ne_of_gt hpq)
  have K6:=(K4.trans k5).trans k6
  have hsm:(ds.map zb0.d).length<sz:=Nat.lt_of_le_of_lt (show (ds.map zb0.d).length<=50 by rw [List.length_map,hl];omega) (by decide)
  have fin:∀(e:zb0) (M'':Mem) (x5 x6:Option D),ze7 w' p' e->M''[q]?=some (ds.map zb0.d)->za3 M'' p (B+3+(i+1)*45)->zbv p M M''->
   okE (zaf (znh (zad 4) (zad 7)) zak [some (.cell p),some (nD w'),some (nD p'),some (nD mo),some (.cell q),x5,x6,some e.d] M'') fun fl M'=>∃ρ',fl=.next ρ'/\∃ds:List zb0,M'[q]?=some (ds.map zb0.d)/\ds.length=i+1/\(∀d∈ds,ze7 w' p' d)/\za3 M' p (B+3+(i+1)*45)/\zbv p M M'/\∃a b c,ρ'=[some (.cell p),some (nD w'),some (nD p'),some (nD mo),some (.cell q),a,b,c]:=by
   intro e M'' x5 x6 he e7 q7 K7
   simp only [za5,s_app_,zbp]
   refine ⟨_,rfl,_,rfl,q,ds.map zb0.d,rfl,e7,hsm,_,rfl,ds++[e],?_,by rw [List.length_append,hl];rfl,fun d hd=>?_,q7.setq hpq,K7.setq hqM,_,_,_,rfl⟩
   ·rw [List.getElem?_set_self (List.getElem?_eq_some_iff.mp e7).1,List.map_append];rfl
   ·rcases List.mem_append.mp hd with z|z
    ·exact hds d z
    ·rw [List.mem_singleton.mp z];exact he
  show okE (zaf _ _ [some (.cell p),some (nD w'),some (nD p'),some (nD mo),some (.cell q),some d,some (nD again),some e.d] M6) _
  have en:(zau (za9 .ne (zad 4) (zbd false zaj)):GT) [some (.cell p),some (nD w'),some (nD p'),some (nD mo),some (.cell q),some d,some (nD again),some e.d] M6=.ok (!ds.isEmpty) M6:=by
   refine zdq ?_
   unfold za9
   show (ofO M6 (zb2 .ne (.cell q) (.lst []) M6)).bind _=_
   rw [ne_nil e6];rfl
  refine zd3 (z5k (zll (c:=0) rfl) en) (fun cc=>?_) fun _=>fin e M6 _ _ he e6 (q6.mono (by omega)) K6
  have hpos:0<ds.length:=by
   rw [Bool.and_eq_true] at cc
   cases ds with
   |nil=>exact absurd cc.2 (by decide)
   |cons _ _=>exact Nat.succ_pos _
  simp only [za5,zf9,ze1,zmt,zj1,ziu,zbq,zbx,e_neg,e_c]
  have el:zbh .len (zaa (zad 4) zaj) [some (.cell p),some (nD w'),some (nD p'),some (nD mo),some (.cell q),some d,some (nD again),some e.d] M6=.ok (nD ds.length) M6:=by
   refine zav ?_
   simp only [zec,zbq,zbx,zbp]
   exact ⟨_,rfl,z1i.mpr ⟨_,e6,by rw [List.length_map],rfl⟩⟩
  show okE (zao 31 (zal P (n+4)) (zaa (zad 0) (zaa (zbh .len (zaa (zad 4) zaj)) zaj)) [some (.cell p),some (nD w'),some (nD p'),some (nD mo),some (.cell q),some d,some (nD again),some e.d] M6) _
  refine zbo (zjp h (n+2) (many:=ds.length) rfl el q6 (bd (k:=41) hB4 (by decide)) hpos (by omega)) ?_
  rintro _ M7 ⟨v,rfl,hv,q7,k7⟩
  have e7:=k7.get e6 (Nat.ne_of_gt hpq)
  refine ⟨(ds.getD v e).d,?_,1,rfl,rfl,rfl,?_⟩
  ·show (M7[q]?).bind (fun ds=>(ixN ds.length (v:Int)).bind fun j=>ds[j]?)=_
   rw [e7]
   show (ixN (ds.map zb0.d).length (v:Int)).bind (fun j=>(ds.map zb0.d)[j]?)=_
   rw [zg8 (by rw [List.length_map];exact hv)]
   simp [List.getD_eq_getElem?_getD,hv]
  ·refine zbo (z15 (d:=ds.getD v e) (c:=e.cost) (k:=fun x M'=>okE (zaf (znh (zad 4) (zad 7)) zak [some (.cell p),some (nD w'),some (nD p'),some (nD mo),some (.cell q),some d,some (nD again),some x] M') fun fl M'=>∃ρ',fl=.next ρ'/\∃ds:List zb0,M'[q]?=some (ds.map zb0.d)/\ds.length=i+1/\(∀d∈ds,ze7 w' p' d)/\za3 M' p (B+3+(i+1)*45)/\zbv p M M'/\∃a b c,ρ'=[some (.cell p),some (nD w'),some (nD p'),some (nD mo),some (.cell q),a,b,c]) ?_) fun x1 M3 hx=>⟨1,rfl,nD e.cost,zqt,zax (n:=1) (by decide),hx⟩
   exact fin _ M7 _ _ (zzm (hds _ (getD_mem hv)) (z5d he)) e7 (q7.mono (by omega)) (K6.trans k7)
 ·rintro Z M' ⟨ds,e4,hl,hds,q4,K4,a,b,c,rfl⟩
  simp only [List.length_map,List.length_range] at hl q4
  refine zjc ?_
  simp only [ziu,zbq,zbx,zec,zbp]
  refine ⟨_,rfl,_,rfl,_,rfl,zvf.mpr ⟨_,e4,zax (n:=3) (by decide),⟨w',p',ds⟩,rfl,⟨w2,w4,l1,l2,?_,?_,hds⟩,?_,?_,?_,q4.mono (by omega),K4⟩⟩
  ·show 1<=ds.length;omega
  ·show ds.length<=6;omega
  ·show w'<=W;omega
  ·show p'<=Pl;omega
  ·show ds.length<=mo;omega
theorem z3c (h35:P 35=some ⟨3,6,zhi⟩)(n:Nat){p B mo:Nat}{m:zcc}(hm:zdf m)(hp:za3 M p B)(hB:B<=700000)(hmo:mo<=40):okE (zal P (n+3) 35 [.cell p,m.d,nD mo] M) fun d M'=>∃r:List Nat,d=.lst (r.map nD)/\ziw m r/\r.length<=mo/\za3 M' p (B+50)/\zbv p M M':=by
 refine zay h35 rfl ?_
 have d1:=hm.d1
 have d6:=hm.d6
 simp only [zhi,za5,zf9,zen,zbq,zbx,e_c,zbp,e_ite]
 simp only [Option.some.injEq,exists_eq_left',List.getElem?_cons_zero,List.getElem?_cons_succ,Option.getD_some,List.map_cons,List.map_nil,List.cons_append,List.nil_append,nD]
 refine tk h n (many:=4) hp (by omega) (by omega) (by omega) fun kind M1 hk q1 k1=>?_
 simp [nD]
 have core:∀(many:Nat) (M2:Mem),many<=mo->za3 M2 p (B+2)->zbv p M M2->okE (zej (zfg (Tgt.one 0) (zc5 (zao 31 (zal P (n+2)) (zaa (zad 1) (zaa (zbh Blt.len (zaa (za4 (zad 2) (gC (D.int 2))) zaj)) zaj))))
  [none,some (D.cell p),some m.d,some (D.int mo),some (D.int kind),some (D.int many),none]) (fun x=>some (List.map (fun k:Nat=>D.int k) (List.range many))) [] M2) fun acc M_2=>acc.length<=sz/\
   ((¬(kind : Int) = 1 /\ ∃ r, acc = List.map nD r /\ ziw m r /\ r.length <= mo /\ za3 M_2 p (B + 50) /\ zbv p M M_2) \/ (kind : Int) = 1 /\ zci false D.non = true /\ zci true (D.int 2) = true /\
     okE (zew false (D.lst acc) D.non (D.int 2) M_2) fun x_1 M_3=>okE (zei false Bin.mul x_1 (D.int many) M_3) fun x_2 M_4=>zci false D.non=true/\zci true (D.int many)=true/\
      okE (zew false x_2 D.non (D.int many) M_4) fun d M'=>∃r,d=D.lst (List.map nD r)/\ziw m r/\r.length<=mo/\za3 M' p (B+50)/\zbv p M M'):=by
  intro many M2 hmany q2 k2
  refine comp_map (ds:=(List.range many).map fun (k:Nat)=>D.int (k:Int)) (fun i acc M'=>∃t:List Nat,acc=t.map nD/\(∀x∈t,x<m.deeds.length)/\za3 M' p (B+2+i)/\zbv p M M') (zax (by simp;omega)) (fun _ _ _ _=>rfl) ⟨[],rfl,by simp,q2,k2⟩ ?_ ?_
  ·rintro i d acc M' hd _ ⟨t,rfl,ht,hp',hk'⟩
   have hi:i<many:=by
    have:=(List.getElem?_eq_some_iff.mp hd).1
    simpa using this
   refine ⟨_,rfl,?_⟩
   simp [-zpu,md2]
   refine tk h n hp' (by omega) (by omega) (by omega) fun v M4 hv p4 k4=>⟨t++[v],by simp,fun x hx=>?_,p4.mono (by omega),hk'.trans k4⟩
   rcases List.mem_append.mp hx with z|z
   ·exact ht x z
   ·simp at z;omega
  ·rintro acc M' hl ⟨t,rfl,ht,hp',hk'⟩
   simp at hl
   have P50:za3 M' p (B+50):=hp'.mono (by simp;omega)
   refine ⟨zax (by simp;omega),?_⟩
   by_cases c1:kind=1
   ·refine .inr ⟨by omega,rfl,rfl,(zsd (a:=2)).mpr ⟨zax (by simp;omega),mul_li.mpr ⟨⟨?_,by omega,by omega⟩,zcn.mpr ⟨?_,rfl,rfl,zsd.mpr ⟨?_,?_⟩⟩⟩⟩⟩
    ·refine tqh (Nat.mul_le_mul (show _<=2 by simp;omega) (show _<=40 by omega)) (by decide)
    ·rw [Int.toNat_natCast]
     simp
     exact tqh (Nat.mul_le_mul (show many<=40 by omega) (show min 2 t.length<=2 by omega)) (by decide)
    ·exact zax (by simp;omega)
    ·rw [Int.toNat_natCast]
     refine ⟨((List.replicate many (t.take 2)).flatten).take many,by simp [List.map_flatten,List.map_take],⟨by simp;omega,fun i hi=>?_⟩,by simp;omega,P50,hk'⟩
     have:=List.mem_of_mem_take hi
     simp only [List.mem_flatten,List.mem_replicate] at this
     obtain ⟨l,⟨_,rfl⟩,hl2⟩:=this
     exact ht i (List.mem_of_mem_take hl2)
   ·exact .inl ⟨by omega,t,rfl,⟨by omega,ht⟩,by omega,P50,hk'⟩
 by_cases c0:kind=0
 ·exact .inr ⟨c0,by omega,core mo M1 (tqg _) (q1.mono (by omega)) k1⟩
 ·refine .inl ⟨c0,?_⟩
  rw [show ((mo:Int)+1)=((mo+1:Nat):Int) by omega]
  refine tk h n q1 (by omega) (by omega) (by omega) fun many M2 hmany q2 k2=>⟨many,rfl,⟨by omega,by omega⟩,?_⟩
  exact core many M2 (by omega) q2 (k1.trans k2)
end
end LD
namespace LD
open PySem
theorem z3i {xs:List D}{a b:Nat}{M:Mem}{k:D->Mem->Prop}:okE (zew false (.frz xs) (.int a) (.int b) M) k↔(cut xs (min a xs.length) (min b xs.length)).length<=sz/\k (.lst (cut xs (min a xs.length) (min b xs.length))) M:=by
 show okE (match sIx xs.length 0 (.int a),sIx xs.length xs.length (.int b) with|some l,some h=>zb6 false (cut xs l h) M|_,_=>.bad) k↔_
 have e1:sIx xs.length 0 (.int a)=some (min a xs.length):=by
  show some _=_
  rw [if_neg (by omega)];simp
 have e2:sIx xs.length xs.length (.int b)=some (min b xs.length):=by
  show some _=_
  rw [if_neg (by omega)];simp
 rw [e1,e2]
 exact zcn
theorem zz5 {xs:List D}{b:Nat}{M:Mem}{k:D->Mem->Prop}:okE (zew false (.frz xs) .non (.int b) M) k↔(cut xs 0 (min b xs.length)).length<=sz/\k (.lst (cut xs 0 (min b xs.length))) M:=by
 show okE (match sIx xs.length 0 D.non,sIx xs.length xs.length (.int b) with|some l,some h=>zb6 false (cut xs l h) M|_,_=>.bad) k↔_
 have e2:sIx xs.length xs.length (.int b)=some (min b xs.length):=by
  show some _=_
  rw [if_neg (by omega)];simp
 rw [e2]
 exact zcn
theorem zva {α β:Type}(f:α->β)(l:List α)(a b:Nat):cut (l.map f) a b=(cut l a b).map f:=by simp [cut,List.map_take,List.map_drop]
theorem zpz {α:Type}(l:List α)(a b:Nat):(cut l a b).length<=l.length:=by simp [cut];omega
section
variable {P:Nat->Option Df}(h:HasP0 P){M:Mem}
include h
theorem z3e (n:Nat){ns:List Int}(hn:ns.length<=63):okE (zal P (n+1) 29 [.frz (ns.map D.int)] []) fun d M'=>d=.cell 1/\za3 M' 1 0:=by
 refine zay h.law_open rfl ?_
 simp [zh3,zci]
 refine (zz5 (b:=12)).mpr ⟨?_,?_⟩
 ·exact zax (tqh (zpz _ _ _) (by simp;omega))
 simp only [z1h,zu1]
 refine ⟨zax (tqh (zpz _ _ _) (by simp;omega)),(z3i (a:=12) (b:=63)).mpr ⟨zax (tqh (zpz _ _ _) (by simp;omega)),⟨rfl,rfl⟩,?_⟩⟩
 rw [zva,zva]
 simp only [List.length_map,List.length_nil,List.nil_append]
 have e63:min 63 ns.length=ns.length:=by omega
 rw [e63]
 refine zgu (ds:=zdd 0 ((cut ns (min 12 ns.length) ns.length).map D.int)) (fun i Z M'=>∃l:List Int,M'=[l.map D.int]/\l.length=min 12 ns.length/\∃a b,Z=[some (.frz (ns.map D.int)),some (.cell 0),a,b]) (fun _ _ _ _=>rfl) ⟨cut ns 0 (min 12 ns.length),rfl,by simp [cut],none,none,rfl⟩ ?_ ?_
 ·rintro i d Z M' hd ⟨l,rfl,hl,a,b,rfl⟩
  rw [zeb,List.getElem?_map] at hd
  cases e:(cut ns (min 12 ns.length) ns.length)[i]? with
  |none=>rw [e] at hd;cases hd
  | some x =>
    rw [e] at hd
    have hd:D.tup [.int ((0+i:Nat):Int),.int x]=d:=Option.some.inj hd
    subst hd
    have hi:=(List.getElem?_eq_some_iff.mp e).1
    have hlen:12<ns.length:=by
     by_cases c:12<ns.length
     ·exact c
     ·have:min 12 ns.length=ns.length:=by omega
      rw [this] at hi
      simp [cut] at hi
    have l12:l.length=12:=by omega
    have r1:=Int.emod_nonneg (i:Int) (show (12:Int)≠0 by decide)
    have r2:=Int.emod_lt_of_pos (i:Int) (show (0:Int)<12 by decide)
    obtain ⟨y,ey⟩:=zps (l:=l) r1 (by rw [l12];exact r2)
    obtain ⟨k,ek⟩:∃k:Nat,(i:Int) % 12=(k:Int):=⟨((i:Int) % 12).toNat,by omega⟩
    refine ⟨_,rfl,?_⟩
    simp
    rw [ek] at ey ⊢
    have hk:k<l.length:=by omega
    refine ⟨_,ey,?_⟩
    simp only [zft]
    refine ⟨l.map D.int,rfl,k,?_,l.set k (y+x),?_,by simp [hl]⟩
    ·simpa using zg8 hk
    ·simp [List.map_set]
 ·rintro Z M' ⟨l,rfl,hl,a,b,rfl⟩
  simp
  exact ⟨by decide,⟨0,l,0,0,rfl,rfl,by decide,by decide,by decide,by decide⟩⟩
end
end LD
namespace LD
open PySem
structure zrs (P:Nat->Option Df):Prop where
 same:P 40=some ⟨2,2,zc6⟩
theorem zp8:∀ds:List D,zif ds ds=ds.map fun d=>.tup [d,d]
 |[]=>rfl
 |d::r=>by simp [zif,zp8 r]
theorem zv1 {ds:List D}{M:Mem}:zb2 .notin (.bl false) (.lst (ds.map fun _=>.bl true)) M=some true:=by
 show ((zcp M (.lst (ds.map fun _=>.bl true))).bind (inL (view M (.bl false)))).map (!·)=_
 show (inL (.bl false) (ds.map fun _=>.bl true)).map (!·)=_
 unfold inL
 rw [if_pos]
 ·have:(ds.map fun _=>D.bl true).any (fun y=>zbr y (.bl false))=false:=by
   rw [List.any_eq_false];intro x hx;obtain ⟨_,_,rfl⟩:=List.mem_map.mp hx;simp [zbr]
  rw [this];rfl
 ·simp [zas]
@[simp] theorem z1g {m:Bool}{ds:List D}{M:Mem}{k:D->Mem->Prop}:okE (zff (.list m) [.tup ds] M) k↔okE (zb6 m ds M) k:=Iff.rfl
theorem zcr {x y:Str}{b:Bool}(e:eqD (.str x) (.str y)=some b)(M:Mem):zb2 .eq (.str x) (.str y) M=some b:=by
 show eqM M (.str x) (.str y)=some b
 unfold eqM
 rw [show eqD (view M (.str x)) (view M (.str y))=some b from e]
def zsj (c:Call):GS:=zaf (zbc (zau (za9 .ne (zbh .len (zaa (zad 0) zaj)) (zbh .len (zaa (zad 1) zaj)))) rF zak) (zaf (zbb (za9 .notin gFf (zcs false 2 (.tup [0,1]) (zmo (zad 0) (zad 1)) (zc5 (zao 40 c (zaa (zad 0) (zaa (zad 1) zaj))))))) zak)
section
variable {P:Nat->Option Df}(h:zrs P){M:Mem}
include h
theorem zxl (n:Nat)(i:Nat):zal P (n+1) 40 [nD i,nD i] M=.ok (.bl true) M:=by
 refine zav (zay h.same rfl ?_)
 show okE (zc6 (zal P n) [some (nD i),some (nD i)] M) _
 unfold zc6
 exact zar rfl (zar rfl (zbw rfl (v:=.bl ((i:Int)==(i:Int))) rfl ⟨by simp,rfl⟩))
theorem zxq (n:Nat){x y:D}{ds:List D}{Z:Env}{kl:List D->Mem->Prop}(hx:zcp M x=some ds)(hy:zcp M y=some ds)(hz:ds.length<=sz)(hs:∀d∈ds,zal P n 40 [d,d] M=.ok (.bl true) M)(hk:kl (ds.map fun _=>.bl true) M) :
 okE (zej (zfg (.tup [0,1]) (zc5 (zao 40 (zal P n) (zaa (zad 0) (zaa (zad 1) zaj)))) (none::none::Z)) (zmf x y) [] M) kl:=by
 refine zj3 (ds:=ds.map fun d=>.tup [d,d]) (fun _=>.bl true) (by simpa using hz) ?_ ?_ ?_
 ·simp [zmf,hx,hy,zp8]
 ·intro d hd
  obtain ⟨e,he,rfl⟩:=List.mem_map.mp hd
  refine ⟨_,rfl,?_⟩
  refine zav ?_
  simp
  rw [hs e he]
  exact ⟨rfl,rfl⟩
 ·simpa [Function.comp_def] using hk
theorem zz8 (n:Nat){x y:D}{ds:List D}(hx:zcp M x=some ds)(hy:zcp M y=some ds)(lx:zff .len [x] M=.ok (.int ds.length) M)(ly:zff .len [y] M=.ok (.int ds.length) M)(sx:zd5 x=true)(sy:zd5 y=true)(hz:ds.length<=sz)(hs:∀d∈ds,zal P n 40 [d,d] M=.ok (.bl true) M) :
 okE (zsj (zal P n) [some x,some y] M) (zhb fun d M'=>d=.bl true/\M'=M):=by
 simp [zsj,lx,ly,sx,sy]
 exact zxq h n hx hy hz hs ⟨by simpa using hz,zv1,rfl⟩
end
end LD
namespace LD
open PySem
section
variable {Z:Env}{M:Mem}{a b d:GE}{k:D->Mem->Prop}{kw:Walk->Mem->Prop}{kf:Fl->Mem->Prop}
@[simp] theorem w_zip3:okE (gZip3 a b d Z M) kw↔okE (a Z M) fun x M=>okE (b Z M) fun y M=>okE (d Z M) fun z M=>(zd5 x&&zd5 y&&zd5 z)=true/\kw (zipW3 x y z) M:=by
 simp only [gZip3,zby];refine iff_of_eq ?_;congr 1;funext x M;congr 1;funext y M;congr 1;funext z M;split<;>simp_all
@[simp] theorem e_rev {m:Bool}:okE (gRev m a Z M) k↔okE (a Z M) fun x M=>okE (revD m x M) k:=by simp [gRev]
@[simp] theorem rev_lst {m:Bool}{xs:List D}:okE (revD m (.lst xs) M) k↔okE (zb6 m xs.reverse M) k:=Iff.rfl
@[simp] theorem z3n {m:Bool}{xs:List D}:okE (revD m (.tup xs) M) k↔k (.tup xs.reverse) M:=Iff.rfl
theorem z4r {t:Tgt}{w:Walk}{gb:GS}{ds:List D}(I:Nat->Env->Mem->Prop)(R:D->Mem->Prop)(hw:∀i Z M,I i Z M->w M=some ds)(hwR:∀d M,R d M->w M=some ds)(h0:I 0 Z M)
 (hs:∀i d Z M,ds[i]?=some d->I i Z M->∃ρ1,zde t d Z=some ρ1/\okE (gb ρ1 M) fun fl M=>(∃ρ',fl=.next ρ'/\I (i+1) ρ' M)\/∃d,fl=.ret d/\R d M) (hk:∀Z M,I ds.length Z M->kf (.next Z) M) (hr:∀d M,R d M->kf (.ret d) M) :
 okE (zej (zgw t gb) w (.next Z) M) kf:=by
 refine zi4 (fun i fl M=>(∃Z,fl=.next Z/\I i Z M)\/∃d,fl=.ret d/\R d M) (fun i fl M h=>h.elim (fun ⟨Z,_,h⟩=>hw i Z M h) fun ⟨d,_,h⟩=>hwR d M h) (.inl ⟨Z,rfl,h0⟩) ?_ ?_
 ·rintro i d fl M hd (⟨Z,rfl,hI⟩|⟨d',rfl,hR⟩)
  ·obtain ⟨ρ1,e,h⟩:=hs i d Z M hd hI
   simp only [zgw,zby,zl3,e]
   exact ⟨ρ1,rfl,h⟩
  ·exact .inr ⟨d',rfl,hR⟩
 ·rintro fl M (⟨Z,rfl,hI⟩|⟨d,rfl,hR⟩)
  ·exact hk Z M hI
  ·exact hr d M hR
end
end LD
namespace LD
open PySem
theorem zo8 {xs:List D}{a:Nat}{M:Mem}{k:D->Mem->Prop}:okE (zew false (.lst xs) .non (nD a) M) k↔(xs.take a).length<=sz/\k (.lst (xs.take a)) M:=zsd
end LD
namespace LD
open PySem
abbrev Rule:=List Nat×List Nat
structure Stp where
 place:Nat
 num:Nat
 back:Bool
def Stp.d (s:Stp):D:=.tup [nD s.place,nD s.num,.bl s.back]
def Rule.way (r:Rule)(b:Bool):Rule:=if b then (r.2,r.1) else r
end LD
namespace LD
open PySem
theorem zqv {tg:Tgt}{w:Walk}{gc:GT}{ge:GE}{ds:List D}{ρ0:Env}{M:Mem}{kl:List D->Mem->Prop}(f:D->Bool)(g:D->D)(hz:ds.length<=sz)(hw:w M=some ds)
 (hs:∀d∈ds,∃ρ1,zde tg d ρ0=some ρ1/\gc ρ1 M=.ok (f d) M/\(f d=true->ge ρ1 M=.ok (g d) M)) (hk:kl ((ds.filter f).map g) M):okE (zej (zfg tg (gIf gc (zc5 ge)) ρ0) w [] M) kl:=by
 refine zi4 (fun i acc M'=>M'=M/\acc=((ds.take i).filter f).map g) (fun i acc M' h=>by rw [h.1];exact hw) ⟨rfl,rfl⟩ ?_ ?_
 ·rintro i d acc M' hd ⟨rfl,rfl⟩
  obtain ⟨ρ1,e1,e2,e3⟩:=hs d (List.mem_of_getElem? hd)
  have hi:i<ds.length:=(List.getElem?_eq_some_iff.mp hd).1
  simp only [zfg,e1,z0r,Res.bind_ok,gIf,e2]
  rw [List.take_succ,hd]
  cases q:f d with
  | false =>
    simp [q]
  | true =>
    rw [if_pos rfl]
    have len:(((ds.take i).filter f).map g).length<=i:=by
     rw [List.length_map]
     exact tqh (List.length_filter_le _ _) (by simp;omega)
    simp only [zc5,e3 q,Res.bind_ok]
    rw [if_pos (by omega)]
    simp [q]
 ·rintro acc M' ⟨rfl,rfl⟩
  simpa using hk
theorem zny (M:Mem):∀(n k:Nat) (d:D),zas k d=true->zcw n M d=d
 |0,_,_,_=>rfl
 | n + 1, k, d, h => by
   have all:∀(k:Nat) (ds:List D),ds.all (zas k)=true->ds.map (zcw n M)=ds:=fun k ds hp=>by
    rw [List.all_eq_true] at hp
    conv=>rhs;rw [<- List.map_id ds]
    exact List.map_congr_left fun d hd=>zny M n k d (hp d hd)
   cases d with
   | tup ds =>
     cases k with
     |zero=>simp [zas] at h
     |succ k=>exact congrArg D.tup (all k ds (by simpa [zas] using h))
   | lst ds =>
     cases k with
     |zero=>simp [zas] at h
     |succ k=>exact congrArg D.lst (all k ds (by simpa [zas] using h))
   |frz ds=>cases k<;>simp [zas] at h
   |cell q=>cases k<;>simp [zas] at h
   |fn f=>cases k<;>simp [zas] at h
   |exc y p=>cases k<;>simp [zas] at h
   |_=>rfl
end LD
namespace LD
open PySem
structure HasW (P:Nat->Option Df):Prop where
 whole:P 67=some ⟨1,1,zhj⟩
 is_in:P 68=some ⟨3,3,zjt⟩
 numbers:P 69=some ⟨4,4,zf1⟩
 is_deed:P 70=some ⟨3,3,zbm⟩
 is_machine:P 71=some ⟨1,1,zdx⟩
def znx:D->Bool
 |.int _=>true
 |_=>false
theorem eq_empty {l:List D}{M:Mem}(hp:l.all (zas 63)=true):zb2 .eq (.lst l) (.lst []) M=some l.isEmpty:=by
 refine zp1 hp rfl ?_
 cases l<;>rfl
theorem zou (f:D->Bool):∀ds:List D,((ds.filter fun d=>!f d).map fun _=>D.int 1).isEmpty=ds.all f
 |[]=>rfl
 | d :: r => by
   have ih:=zou f r
   cases q:f d with
   |true=>simpa [q] using ih
   |false=>simp [q]
theorem zpl {w:GW}{gc:GT}{Z:Env}{M:Mem}{ds:List D}{k:D->Mem->Prop}(f:D->Bool)(hw:okE (w Z M) fun wk M'=>M'=M/\wk M=some ds)(hz:ds.length<=sz)(he:∀d∈ds,gc (some d::Z) M=.ok (!f d) M)(hk:k (.bl (ds.all f)) M) :
 okE (za9 .eq (zcs false 1 (.one 0) w (gIf gc (zc5 (gI 1)))) (zbd false zaj) Z M) k:=by
 simp only [zh2,zjq,zmu,zbx,zcn]
 refine zbo hw fun wk M' ⟨e1,e2⟩=>?_
 subst e1
 refine zqv (fun d=>!f d) (fun _=>.int 1) hz e2 (fun d hd=>⟨some d::Z,rfl,he d hd,fun _=>rfl⟩) ?_
 refine ⟨tqh (by rw [List.length_map];exact List.length_filter_le _ _) hz,zax (by decide),_,eq_empty ?_,?_⟩
 ·rw [List.all_eq_true]
  intro x hx
  obtain ⟨_,_,rfl⟩:=List.mem_map.mp hx
  rfl
 ·rw [zou];exact hk
section
variable {P:Nat->Option Df}(h:HasW P){M:Mem}{k L:Nat}{d:D}
include h
theorem zlv (n:Nat)(hd:Th k L d):zal P (n+1) 67 [d] M=.ok (.bl (znx d)) M:=by
 refine zav (zay h.whole rfl ?_)
 cases d with
 |fn j=>cases k<;>exact hd.elim
 |exc y p=>cases k<;>exact hd.elim
 |_=>exact zc2 rfl
theorem zh6 (n:Nat)(hd:Th k L d)(lo hi:Int):zal P (n+2) 68 [d,.int lo,.int hi] M=.ok (.bl (zbt lo hi d)) M:=by
 refine zav (zay h.is_in rfl ?_)
 have e:zao 67 (zal P (n+1)) (zaa (zad 0) zaj) [some d,some (.int lo),some (.int hi)] M=.ok (.bl (znx d)) M:=zj4 rfl (zlv h n (M:=M) hd)
 cases d with
 |fn j=>cases k<;>exact hd.elim
 |exc y p=>cases k<;>exact hd.elim
 |int i=>exact zdy (zhk e fun _=>chn_at rfl rfl rfl) ⟨rfl,rfl⟩
 |_=>exact zdy (zhk (y:=false) e fun z=>by cases z) ⟨rfl,rfl⟩
def numB (many:Nat)(lo hi:Int):D->Bool
 |.tup ds=>ds.length==many&&ds.all (zbt lo hi)
 |_=>false
theorem zo7 (n:Nat)(hd:Th k L d)(hL:L<=100){many:Nat}(lo hi:Int):zal P (n+3) 69 [d,nD many,.int lo,.int hi] M=.ok (.bl (numB many lo hi d)) M:=by
 refine zav (zay h.numbers rfl ?_)
 cases d with
 |fn j=>cases k<;>exact hd.elim
 |exc y p=>cases k<;>exact hd.elim
 | tup ds =>
   have ht:=hd.tup
   simp only [zf1,za5,zn4,zcy,zet,zr3,zjd,t_not,zio,t_or,e_c,zbp,ztt,List.map_cons,List.map_nil,List.cons_append,List.nil_append,List.getElem?_cons_zero,List.getElem?_cons_succ,Option.getD_some,Option.some.injEq,exists_eq_left']
   refine ⟨true,rfl,true,rfl,?_⟩
   rw [if_neg (by decide)]
   refine zh2.mpr (zec.mpr (zbq.mpr (zbp.mpr ⟨_,rfl,zbx.mpr (zkr.mpr (zbp.mpr ⟨_,rfl,_,c_nei,_,rfl,?_⟩))⟩)))
   by_cases el:ds.length=many
   ·have e0:(!((ds.length:Int)==(many:Int)))=false:=by simp [el]
    rw [e0,if_neg (by decide)]
    refine zpl (zbt lo hi) (ds:=ds) (by simp;exact ⟨rfl,rfl⟩) (zax (by omega)) (fun d hd=>za2 (by simp [zh6 h n (ht.2 d hd)])) ?_
    exact ⟨by simp [numB,el],rfl⟩
   ·have e0:(!((ds.length:Int)==(many:Int)))=true:=by simp;omega
    rw [e0,if_pos (by decide)]
    exact ⟨by simp [numB,el],rfl⟩
 |_=>exact zc2 rfl
end
abbrev zdi:List D:=[.str "turn",.str "join",.str "move",.str "put"]
theorem zyg {k L:Nat}{x:D}{M:Mem}(hx:Th k L x)(hk:k<=60):zb2 .notin x (.tup zdi) M=some (!(zdi.any fun y=>zbr y x)):=by
 have hp:zas 64 x=true:=(hx.mono (n':=64) (by omega) (tqg L)).pure
 have e:zb2 .notin x (.tup zdi) M=((zcp M (.tup zdi)).bind (inL (view M x))).map (!·):=by cases x<;>rfl
 rw [e,hx.view]
 show Option.map _ (inL x zdi)=_
 unfold inL
 rw [hp,show zdi.all (zas 63)=true by decide +kernel]
 rfl
section
variable {P:Nat->Option Df}(h:HasW P){M:Mem}{k L:Nat}{d:D}
include h
theorem zyl (n:Nat){w p:Nat}{xs:List D}(hl:xs.length≠4/\xs.length≠5):zal P (n+4) 70 [.tup xs,nD w,nD p] M=.ok (.bl false) M:=by
 refine zav (zay h.is_deed rfl ?_)
 show okE (zbm _ [some (.tup xs),some (nD w),some (nD p)] M) _
 unfold zbm
 refine zbw (za2 ?_) rfl ⟨rfl,rfl⟩
 have e:zb2 .notin (.int xs.length) (.tup [.int 4,.int 5]) M=some true:=by
  show ((inL (.int xs.length) [.int 4,.int 5]).map (!·))=_
  have e1:zbr (.int 4) (.int xs.length)=false:=by simp [zbr];omega
  have e2:zbr (.int 5) (.int xs.length)=false:=by simp [zbr];omega
  show (some ([D.int 4,D.int 5].any fun y=>zbr y (.int xs.length))).map (!·)=_
  simp [e1,e2]
 simp [zca,e]
 exact zax (by decide)
theorem zwf (n:Nat){w p:Nat}{x:D}{xs:List D}(hx:Th k L x)(hk:k<=60)(hl:xs.length=3\/xs.length=4)(hn:(zdi.any fun y=>zbr y x)=false):zal P (n+4) 70 [.tup (x::xs),nD w,nD p] M=.ok (.bl false) M:=by
 refine zav (zay h.is_deed rfl ?_)
 show okE (zbm _ [some (.tup (x::xs)),some (nD w),some (nD p)] M) _
 unfold zbm
 have e:zb2 .notin (.int (x::xs).length) (.tup [.int 4,.int 5]) M=some false:=by
  show ((inL (.int (x::xs).length) [.int 4,.int 5]).map (!·))=_
  show (some ([D.int 4,D.int 5].any fun y=>zbr y (.int (x::xs).length))).map (!·)=_
  rcases hl with e|e<;>simp [zbr,e]
 have e2:=zyg (M:=M) hx hk
 rw [hn] at e2
 refine zar (za2 ?_) (zbw (za2 ?_) rfl ⟨rfl,rfl⟩)
 ·simp at e
  simp [zca,e]
  exact zax (by decide)
 ·simp [ixN,e2]
  exact zax (by decide)
theorem dl3 (n:Nat){w p:Nat}{xs:List D}{a c:D}(hL1:L+1<=100)(i1:zf6 (.tup xs) (.int 1) M=some a)(il:zf6 (.tup xs) (.int (-1)) M=some c)(ha:Th k L a)(hc:Th k L c) :
 (tOr (zb7 (zau (zao 69 (zal P (n+3)) (zaa (zc4 (zaa (za4 (zad 0) (gI 1)) zaj)) (zaa (gI 1) (zaa (gI 0) (zaa (zaq false .sub (zad 2) (gI 1)) zaj))))))) (zb7 (zau (zao 68 (zal P (n+3)) (zaa (za4 (zad 0) (zfn (gI 1))) (zaa (gI 1) (zaa (gI 3) zaj)))))):GT) [some (.tup xs),some (nD w),some (nD p)] M=.ok (!(zbt 0 ((p:Int)-1) a&&zbt 1 3 c)) M:=by
 have q1:zal P (n+3) 69 [.tup [a],.int 1,.int 0,.int ((p:Int)-1)] M=.ok (.bl (numB 1 0 ((p:Int)-1) (.tup [a]))) M:=zo7 h n (d:=.tup [a]) (k:=k+1) (L:=L+1) (many:=1) (show [a].length<=L+1/\∀d∈[a],Th k (L+1) d from ⟨by simp,fun d hd=>by rw [List.mem_singleton.mp hd];exact ha.mono (tqg k) (Nat.le_succ L)⟩) hL1 0 _
 have q2:=zh6 h (n+1) (M:=M) hc 1 3
 have z1:1<=sz:=zax (by decide)
 refine za2 ?_
 simp [-zpu,i1,il,q1,q2,z1,numB]
 cases zbt 0 ((p:Int)-1) a<;>cases zbt 1 3 c<;>simp
end
theorem z4e {M:Mem}:zb2 .notin (.str "turn") (.tup zdi) M=some false:=by
 show (inL (.str "turn") zdi).map (!·)=_
 decide +kernel
theorem z4g {M:Mem}:zb2 .notin (.str "join") (.tup zdi) M=some false:=by
 show (inL (.str "join") zdi).map (!·)=_
 decide +kernel
theorem z4f {M:Mem}:zb2 .notin (.str "move") (.tup zdi) M=some false:=by
 show (inL (.str "move") zdi).map (!·)=_
 decide +kernel
theorem nm_put {M:Mem}:zb2 .notin (.str "put") (.tup zdi) M=some false:=by
 show (inL (.str "put") zdi).map (!·)=_
 decide +kernel
theorem ne_bb {M:Mem}{x y:Bool}:zb2 .ne (.bl x) (.bl y) M=some (x != y):=by cases x<;>cases y<;>rfl
theorem in45 {M:Mem}:zb2 .notin (.int 4) (.tup [.int 4,.int 5]) M=some false/\zb2 .notin (.int 5) (.tup [.int 4,.int 5]) M=some false:=⟨rfl,rfl⟩
section
variable {P:Nat->Option Df}(h:HasW P){M:Mem}{k L:Nat}{d:D}
include h
theorem zwe (n:Nat){w p:Nat}{a b c:D}(hL:L+1<=100)(ha:Th k L a)(hb:Th k L b)(hc:Th k L c):zal P (n+4) 70 [.tup [.str "turn",a,b,c],nD w,nD p] M=.ok (.bl (zju w p [a,b,c])) M:=by
 refine zav (zay h.is_deed rfl ?_)
 show okE (zbm _ [some (.tup [.str "turn",a,b,c]),some (nD w),some (nD p)] M) _
 unfold zbm
 have z2:2<=sz:=zax (by decide)
 have z4:4<=sz:=zax (by decide)
 have ej:=zcr (x:="turn") (y:="join") (b:=false) (by decide +kernel) M
 have et:=zcr (x:="turn") (y:="turn") (b:=true) (by decide +kernel) M
 have ep:=zcr (x:="turn") (y:="put") (b:=false) (by decide +kernel) M
 have em:=zcr (x:="turn") (y:="move") (b:=false) (by decide +kernel) M
 refine zar (by kernel_rfl) (zar (by kernel_rfl) ?_)
 have t3:=dl3 h n (w:=w) (p:=p) (M:=M) (xs:=[.str "turn",a,b,c]) hL rfl rfl ha hc
 cases A:(zbt 0 ((p:Int)-1) a&&zbt 1 3 c) with
 | false =>
   rw [A] at t3
   refine zbw t3 rfl ⟨?_,rfl⟩
   simp only [zju]
   rcases Bool.and_eq_false_iff.mp A with q|q<;>simp [q]
 | true =>
   rw [A] at t3
   simp only [Bool.and_eq_true] at A
   refine zar t3 ?_
   have q:=zo7 h n (M:=M) (many:=w) hb (by omega) 0 ((w:Int)-1)
   refine zbw (v:=.bl (zih w b)) (by kernel_rfl) (zav (by simp [ixN,q];cases b<;>rfl)) ⟨?_,rfl⟩
   simp [zju,A.1,A.2]
theorem zyj (n:Nat){w p:Nat}{a b c:D}(hL:L+1<=100)(ha:Th k L a)(hb:Th k L b)(hc:Th k L c):zal P (n+4) 70 [.tup [.str "put",a,b,c],nD w,nD p] M=.ok (.bl (zl1 w p [a,b,c])) M:=by
 refine zav (zay h.is_deed rfl ?_)
 show okE (zbm _ [some (.tup [.str "put",a,b,c]),some (nD w),some (nD p)] M) _
 unfold zbm
 have z2:2<=sz:=zax (by decide)
 have z4:4<=sz:=zax (by decide)
 have ej:=zcr (x:="put") (y:="join") (b:=false) (by decide +kernel) M
 have et:=zcr (x:="put") (y:="turn") (b:=false) (by decide +kernel) M
 have ep:=zcr (x:="put") (y:="put") (b:=true) (by decide +kernel) M
 have em:=zcr (x:="put") (y:="move") (b:=false) (by decide +kernel) M
 refine zar (by kernel_rfl) (zar (by kernel_rfl) ?_)
 have t3:=dl3 h n (w:=w) (p:=p) (M:=M) (xs:=[.str "put",a,b,c]) hL rfl rfl ha hc
 cases A:(zbt 0 ((p:Int)-1) a&&zbt 1 3 c) with
 | false =>
   rw [A] at t3
   refine zbw t3 rfl ⟨?_,rfl⟩
   simp only [zl1]
   rcases Bool.and_eq_false_iff.mp A with q|q<;>simp [q]
 | true =>
   rw [A] at t3
   simp only [Bool.and_eq_true] at A
   refine zar t3 ?_
   have q:=zh6 h (n+1) (M:=M) hb 0 ((w:Int)-1)
   refine zar (by kernel_rfl) (zbw (v:=.bl (zbt 0 ((w:Int)-1) b)) (by kernel_rfl) (zav (by simp [ixN,q])) ⟨?_,rfl⟩)
   simp [zl1,A.1,A.2]
theorem zwg (n:Nat){w p:Nat}{a b c:D}(hL:L+1<=100)(ha:Th k L a)(hb:Th k L b)(hc:Th k L c):zal P (n+4) 70 [.tup [.str "move",a,b,c],nD w,nD p] M=.ok (.bl (ziq w p [a,b,c])) M:=by
 refine zav (zay h.is_deed rfl ?_)
 show okE (zbm _ [some (.tup [.str "move",a,b,c]),some (nD w),some (nD p)] M) _
 unfold zbm
 have z2:2<=sz:=zax (by decide)
 have z4:4<=sz:=zax (by decide)
 have ej:=zcr (x:="move") (y:="join") (b:=false) (by decide +kernel) M
 have et:=zcr (x:="move") (y:="turn") (b:=false) (by decide +kernel) M
 have ep:=zcr (x:="move") (y:="put") (b:=false) (by decide +kernel) M
 have em:=zcr (x:="move") (y:="move") (b:=true) (by decide +kernel) M
 refine zar (by kernel_rfl) (zar (by kernel_rfl) ?_)
 have t3:=dl3 h n (w:=w) (p:=p) (M:=M) (xs:=[.str "move",a,b,c]) hL rfl rfl ha hc
 cases A:(zbt 0 ((p:Int)-1) a&&zbt 1 3 c) with
 | false =>
   rw [A] at t3
   refine zbw t3 rfl ⟨?_,rfl⟩
   simp only [ziq]
   rcases Bool.and_eq_false_iff.mp A with q|q<;>simp [q]
 | true =>
   rw [A] at t3
   simp only [Bool.and_eq_true] at A
   refine zar t3 ?_
   have q:=zh6 h (n+1) (M:=M) hb 0 ((p:Int)-1)
   refine zar (by kernel_rfl) (zar (by kernel_rfl) ?_)
   cases B:zbt 0 ((p:Int)-1) b with
   | false =>
     rw [B] at q
     exact zbw (za2 (by simp [ixN,q])) rfl ⟨by simp [ziq,B],rfl⟩
   | true =>
     rw [B] at q
     refine zar (za2 (by simp [ixN,q])) (zbw (by kernel_rfl) rfl ⟨?_,rfl⟩)
     simp [ziq,A.1,A.2,B]
theorem zwh (n:Nat){w p:Nat}{a b e c:D}(hL:L+1<=100)(ha:Th k L a)(hb:Th k L b)(he:Th k L e)(hc:Th k L c):zal P (n+4) 70 [.tup [.str "join",a,b,e,c],nD w,nD p] M=.ok (.bl (zh0 w p [a,b,e,c])) M:=by
 refine zav (zay h.is_deed rfl ?_)
 show okE (zbm _ [some (.tup [.str "join",a,b,e,c]),some (nD w),some (nD p)] M) _
 unfold zbm
 have z2:2<=sz:=zax (by decide)
 have z4:4<=sz:=zax (by decide)
 have ej:=zcr (x:="join") (y:="join") (b:=true) (by decide +kernel) M
 have et:=zcr (x:="join") (y:="turn") (b:=false) (by decide +kernel) M
 have ep:=zcr (x:="join") (y:="put") (b:=false) (by decide +kernel) M
 have em:=zcr (x:="join") (y:="move") (b:=false) (by decide +kernel) M
 refine zar (by kernel_rfl) (zar (by kernel_rfl) ?_)
 have t3:=dl3 h n (w:=w) (p:=p) (M:=M) (xs:=[.str "join",a,b,e,c]) hL rfl rfl ha hc
 cases A:(zbt 0 ((p:Int)-1) a&&zbt 1 3 c) with
 | false =>
   rw [A] at t3
   refine zbw t3 rfl ⟨?_,rfl⟩
   simp only [zh0]
   rcases Bool.and_eq_false_iff.mp A with q|q<;>simp [q]
 | true =>
   rw [A] at t3
   simp only [Bool.and_eq_true] at A
   refine zar t3 ?_
   have q:=zh6 h (n+1) (M:=M) hb 0 ((p:Int)-1)
   refine zar (by kernel_rfl) (zar (by kernel_rfl) ?_)
   cases B:zbt 0 ((p:Int)-1) b with
   | false =>
     rw [B] at q
     exact zbw (za2 (by simp [ixN,q])) rfl ⟨by simp [zh0,B],rfl⟩
   | true =>
     rw [B] at q
     refine zar (za2 (by simp [ixN,q])) (zar (by kernel_rfl) ?_)
     have e0:zh0 w p [a,b,e,c]=zj2 w e:=by simp [zh0,A.1,A.2,B]
     rw [e0]
     cases e with
     |fn j=>exact absurd he (by cases k<;>exact id)
     |exc y p=>exact absurd he (by cases k<;>exact id)
     | tup ds =>
       have ht:=he.tup
       by_cases el:ds.length=w
       ·refine zar (za2 (by simp [ixN,zca,el])) ?_
        simp only [za5,zcy]
        refine zpl (zih w) (ds:=ds) (by simp [ixN];exact ⟨rfl,rfl⟩) (zax (by omega)) (fun d hd=>za2 (by
         have q:=zo7 h n (M:=M) (many:=w) (ht.2 d hd) (by omega) 0 ((w:Int)-1)
         have:numB w 0 ((w:Int)-1) d=zih w d:=by cases d<;>rfl
         rw [this] at q
         simp [q])) ?_
        exact ⟨by simp [zj2,el],rfl⟩
       ·have:¬ ((ds.length:Int)=(w:Int)):=by omega
        exact zbw (za2 (by simp [ixN,zca,this])) rfl ⟨by simp [zj2,el],rfl⟩
     |_=>exact zbw rfl rfl ⟨rfl,rfl⟩
omit h in
theorem zx1 {w p:Nat}{s:Str}{ds:List D}(hl:ds.length≠3/\ds.length≠4):zc1 w p s ds=false:=by
 have t:zju w p ds=false:=by
  match ds,hl with
  |[],_=>rfl
  |[_],_=>rfl
  |[_,_],_=>rfl
  |[_,_,_],hl=>simp at hl
  |_::_::_::_::_,_=>rfl
 have j:zh0 w p ds=false:=by
  match ds,hl with
  |[],_=>rfl
  |[_],_=>rfl
  |[_,_],_=>rfl
  |[_,_,_],_=>rfl
  |[_,_,_,_],hl=>simp at hl
  |_::_::_::_::_::_,_=>rfl
 have m:ziq w p ds=false:=by
  match ds,hl with
  |[],_=>rfl
  |[_],_=>rfl
  |[_,_],_=>rfl
  |[_,_,_],hl=>simp at hl
  |_::_::_::_::_,_=>rfl
 have u:zl1 w p ds=false:=by
  match ds,hl with
  |[],_=>rfl
  |[_],_=>rfl
  |[_,_],_=>rfl
  |[_,_,_],hl=>simp at hl
  |_::_::_::_::_,_=>rfl
 unfold zc1
 rw [t,j,m,u]
 split<;>first|rfl|(split<;>first|rfl|(split<;>first|rfl|(split<;>rfl)))
theorem zjy (n:Nat){w p:Nat}{s:Str}{xs:List D}{bj:Bool}(hs:zb2 .notin (.str s) (.tup zdi) M=some false)(ej:zb2 .eq (.str s) (.str "join") M=some bj)(hl:xs.length=3/\bj=true\/xs.length=4/\bj=false):zal P (n+4) 70 [.tup (.str s::xs),nD w,nD p] M=.ok (.bl false) M:=by
 refine zav (zay h.is_deed rfl ?_)
 show okE (zbm _ [some (.tup (.str s::xs)),some (nD w),some (nD p)] M) _
 unfold zbm
 have z2:2<=sz:=zax (by decide)
 have z4:4<=sz:=zax (by decide)
 rcases hl with ⟨e,rfl⟩|⟨e,rfl⟩
 ·refine zar (za2 (by simp [zca,e,in45.1,z2])) (zbw (za2 ?_) rfl ⟨rfl,rfl⟩)
  simp [ixN,hs,z4,ej,ne_bb,e]
 ·refine zar (za2 (by simp [zca,e,in45.2,z2])) (zbw (za2 ?_) rfl ⟨rfl,rfl⟩)
  simp [ixN,hs,z4,ej,ne_bb,e]
theorem zyk (n:Nat){w p:Nat}(hi:zca .tuple d=some false):zal P (n+4) 70 [d,nD w,nD p] M=.ok (.bl false) M:=by
 refine zav (zay h.is_deed rfl ?_)
 show okE (zbm _ [some d,some (nD w),some (nD p)] M) _
 unfold zbm
 exact zbw (za2 (by simp [hi])) rfl ⟨rfl,rfl⟩
theorem zxn (n:Nat){w p:Nat}(hd:Th k L d)(hk:k<=60)(hL:L+1<=100):zal P (n+4) 70 [d,nD w,nD p] M=.ok (.bl (zgf w p d)) M:=by
 cases d with
 |fn j=>exact absurd hd (by cases k<;>exact id)
 |exc y p=>exact absurd hd (by cases k<;>exact id)
 | tup xs =>
   have ht:=hd.tup
   by_cases hl:xs.length≠4/\xs.length≠5
   ·rw [zyl h n hl]
    cases xs with
    |nil=>rfl
    | cons x ds =>
      simp at hl
      cases x with
      |str s=>show _=Res.ok (D.bl (zc1 w p s ds)) M;rw [zx1 ⟨by omega,by omega⟩]
      |_=>rfl
   ·have hl:xs.length=4\/xs.length=5:=by omega
    cases xs with
    |nil=>simp at hl
    | cons x ds =>
      have hx:=ht.2 x List.mem_cons_self
      have hds:∀d∈ds,Th k L d:=fun d hd=>ht.2 d (List.mem_cons_of_mem _ hd)
      have hl:ds.length=3\/ds.length=4:=by simp at hl;omega
      by_cases hn:(zdi.any fun y=>zbr y x)=false
      ·rw [zwf h n hx hk hl hn]
       cases x with
       | str s =>
         show _=Res.ok (D.bl (zc1 w p s ds)) M
         have q:∀z:Str,D.str z∈zdi->¬ s=z:=fun z hz e=>by
          subst e
          rw [List.any_eq_false] at hn
          exact hn _ hz (by simp [zbr])
         rw [zx2 (q _ (by simp)) (q _ (by simp)) (q _ (by simp)) (q _ (by simp))]
       |_=>rfl
      ·have hn:(zdi.any fun y=>zbr y x)=true:=(Bool.not_eq_false _).mp hn
       obtain ⟨z,hz,e⟩:=List.any_eq_true.mp hn
       have hx:∃s:Str,x=.str s/\D.str s∈zdi:=by
        simp only [zdi,List.mem_cons,List.not_mem_nil,or_false] at hz
        cases x<;>rcases hz with rfl|rfl|rfl|rfl<;>first|(simp [zbr] at e;subst e;exact ⟨_,rfl,by simp⟩)|simp [zbr] at e
       obtain ⟨s,rfl,hs⟩:=hx
       show _=Res.ok (D.bl (zc1 w p s ds)) M
       simp only [zdi,List.mem_cons,List.not_mem_nil,or_false,D.str.injEq] at hs
       match ds,hds,hl with
       | [a, b, c], hds, _ =>
         simp only [List.mem_cons,List.not_mem_nil,or_false,forall_eq_or_imp,forall_eq] at hds
         rcases hs with rfl|rfl|rfl|rfl
         ·rw [zoc];exact zwe h n hL hds.1 hds.2.1 hds.2.2
         ·rw [zob];exact zjy h n z4g (zcr (by decide +kernel) M) (.inl ⟨rfl,rfl⟩)
         ·rw [zoa];exact zwg h n hL hds.1 hds.2.1 hds.2.2
         ·rw [zn9];exact zyj h n hL hds.1 hds.2.1 hds.2.2
       | [a, b, e, c], hds, _ =>
         simp only [List.mem_cons,List.not_mem_nil,or_false,forall_eq_or_imp,forall_eq] at hds
         rcases hs with rfl|rfl|rfl|rfl
         ·rw [zoc];exact zjy h n z4e (zcr (by decide +kernel) M) (.inr ⟨rfl,rfl⟩)
         ·rw [zob];exact zwh h n hL hds.1 hds.2.1 hds.2.2.1 hds.2.2.2
         ·rw [zoa];exact zjy h n z4f (zcr (by decide +kernel) M) (.inr ⟨rfl,rfl⟩)
         ·rw [zn9];exact zjy h n nm_put (zcr (by decide +kernel) M) (.inr ⟨rfl,rfl⟩)
       |[],_,hl=>simp at hl
       |[_],_,hl=>simp at hl
       |[_,_],_,hl=>simp at hl
       |_::_::_::_::_::_,_,hl=>simp at hl
 |_=>exact zyk h n rfl
theorem zqi (n:Nat)(hd:Th k L d)(hk:k<=60)(hL:L+1<=100):zal P (n+5) 71 [d] M=.ok (.bl (zex d)) M:=by
 refine zav (zay h.is_machine rfl ?_)
 show okE (zdx _ [some d] M) _
 unfold zdx
 by_cases hn:zfd 3 d=false
 ·rw [ztg hn]
  cases d with
  |fn j=>exact absurd hd (by cases k<;>exact id)
  |exc y p=>exact absurd hd (by cases k<;>exact id)
  | tup xs =>
    have:¬ ((xs.length:Int)=3):=by simp [zfd] at hn;omega
    exact zbw (za2 (by simp [zca,this])) rfl ⟨rfl,rfl⟩
  |_=>exact zbw rfl rfl ⟨rfl,rfl⟩
 ·match d,hd,hn with
  | .tup [a, b, c], hd, _ =>
    have ht:=hd.tup.2
    simp only [List.mem_cons,List.not_mem_nil,or_false,forall_eq_or_imp,forall_eq] at ht
    have b1:=zh6 h (n+2) (M:=M) ht.1 2 4
    have b2:=zh6 h (n+2) (M:=M) ht.2.1 1 2
    show okE _ (zhb fun x M'=>x=.bl (zbt 2 4 a&&(zbt 1 2 b&&(zfm c&&(ztj c).all (zgf (zez a) (zez b)))))/\M'=M)
    cases c1:zbt 2 4 a with
    | false =>
      rw [c1] at b1
      exact zbw (za2 (by simp [zca,ixN,b1])) rfl ⟨rfl,rfl⟩
    | true =>
      rw [c1] at b1
      refine zar (za2 (by simp [zca,ixN,b1])) ?_
      cases c2:zbt 1 2 b with
      | false =>
        rw [c2] at b2
        exact zbw (za2 (by simp [ixN,b2])) rfl ⟨rfl,rfl⟩
      | true =>
        rw [c2] at b2
        obtain ⟨ea,_,_⟩:=zm0 c1 (by decide)
        obtain ⟨eb,_,_⟩:=zm0 c2 (by decide)
        by_cases hcc:∃ds,c=.tup ds
        ·obtain ⟨ds,rfl⟩:=hcc
         have hc:=ht.2.2.tup
         cases lb:zfm (.tup ds) with
         | false =>
           refine zbw (za2 ?_) rfl ⟨rfl,rfl⟩
           simp [zfm] at lb
           simp [ixN,b2,zca]
           omega
         | true =>
           refine zar (za2 ?_) ?_
           ·simp [zfm] at lb
            simp [ixN,b2,zca]
            omega
           ·simp only [za5,zcy]
            refine zpl (zgf (zez a) (zez b)) (ds:=ds) (by simp [ixN];exact ⟨rfl,rfl⟩) (zax (by omega)) (fun d hd=>za2 (by
             have q:=zxn h n (w:=zez a) (p:=zez b) (M:=M) (hc.2 d hd) hk hL
             rw [<- ea,<- eb] at q
             simp [ixN,q])) ?_
            exact ⟨by simp [ztj],rfl⟩
        ·have e1:zfm c=false:=by cases c<;>first|rfl|exact absurd ⟨_,rfl⟩ hcc
         have e2:=ztn ht.2.2 (t:=.tuple) (.inr ⟨hcc,rfl⟩)
         exact zbw (za2 (by simp [ixN,b2,e2])) rfl ⟨by simp [e1],rfl⟩
  |.tup [],_,hn=>exact absurd rfl hn
  |.tup [_],_,hn=>exact absurd rfl hn
  |.tup [_,_],_,hn=>exact absurd rfl hn
  |.tup (_::_::_::_::r),_,hn=>exact absurd (by simp [zfd]) hn
  |.non,_,hn=>exact absurd rfl hn
  |.bl _,_,hn=>exact absurd rfl hn
  |.int _,_,hn=>exact absurd rfl hn
  |.str _,_,hn=>exact absurd rfl hn
  |.lst _,_,hn=>exact absurd rfl hn
  |.frz _,_,hn=>exact absurd rfl hn
  |.cell _,_,hn=>exact absurd rfl hn
  |.fn _,_,hn=>exact absurd rfl hn
  |.exc _ _,_,hn=>exact absurd rfl hn
end
end LD
namespace LD
open PySem
structure HasT0 (P:Nat->Option Df):Prop where
 but:P 64=some ⟨2,4,zed⟩
 any:P 65=some ⟨1,1,zef⟩
structure HasT (P:Nat->Option Df):Prop extends HasT0 P where
 signed:P 66=some ⟨2,3,ze6⟩
 bent:P 72=some ⟨3,9,zke⟩
instance coeHasT {P:Nat->Option Df}:Coe (HasT P) (HasT0 P):=⟨HasT.toHasT0⟩
section
variable {Z:Env}{M:Mem}{a b lo hi:GE}{k:D->Mem->Prop}{kw:Walk->Mem->Prop}
@[simp] theorem w_seqS:okE (zot a Z M) kw↔okE (a Z M) fun x M=>∃z,x=.str z/\kw (fun _=>some (signs z)) M:=by
 simp only [zot,zby];refine iff_of_eq ?_;congr 1;funext x M;cases x<;>simp
theorem e_slcS {hl hh:Bool}:okE (zmp hl hh a lo hi Z M) k↔okE (a Z M) fun x M=>okE (lo Z M) fun l M=>okE (hi Z M) fun h M=>zci hl l=true/\zci hh h=true/\∃z i j,x=.str z/\z.cps.size<=sz/\sIx z.cps.size 0 l=some i/\sIx z.cps.size z.cps.size h=some j/\k (.str (zhw z i j)) M:=by
 simp only [zmp,zby]
 refine iff_of_eq ?_
 congr 1;funext x M;congr 1;funext l M;congr 1;funext h M
 cases zci hl l<;>cases zci hh h<;>simp
 cases x<;>simp
 rename_i z
 by_cases hz:z.cps.size<=sz
 ·simp [hz]
  cases sIx z.cps.size 0 l<;>cases sIx z.cps.size z.cps.size h<;>simp
 ·simp [hz]
end
def zgh (L:Nat)(z:Str):Prop:=z.cps.size<=L/\z.cps.all (· < 0x110000)=true
theorem zgh.th {n L:Nat}{z:Str}(h:zgh L z):Th n L (.str z):=by cases n<;>exact h
theorem zy0 {L:Nat}{z:Str}{i j:Nat}(h:zgh L z):zgh (j-i) (zhw z i j)/\(zhw z i j).cps.size<=z.cps.size-i:=by
 refine ⟨⟨?_,?_⟩,?_⟩
 ·simp [zhw,cut];omega
 ·have h2:=h.2
  rw [<- Array.all_toList,List.all_eq_true] at h2
  simp only [zhw]
  rw [List.all_toArray,List.all_eq_true]
  intro x hx
  exact h2 x (List.mem_of_mem_drop (List.mem_of_mem_take hx))
 ·simp [zhw,cut];omega
theorem add_str {m:Bool}{x y:Str}{M:Mem}{k:D->Mem->Prop}(h:x.cps.size+y.cps.size<=sz):okE (zei m .add (.str x) (.str y) M) k↔k (.str ⟨x.cps++y.cps⟩) M:=by simp [zei,h]
abbrev sgA:Str:=" !\"#$&'()*+,-./0123456789:;<=>?@ABCDEFGHIJKLMNOPQRSTUVWXYZ[\\]^_`"
abbrev sgB:Str:="abcdefghijklmnopqrstuvwxyz{|}~\t\n"
def allSigns:Str:=⟨sgA.cps++sgB.cps⟩
theorem z5m {M:Mem}{k:D->Mem->Prop}:okE (zei false .add (.str sgA) (.str sgB) M) k↔k (.str allSigns) M:=add_str (tqh (by decide +kernel) (zax (n:=200) (by decide)))
theorem zh7:(0<(signs allSigns).length/\(signs allSigns).length<=200)/\allSigns.cps.size<=200/\((signs allSigns).all fun d=>match d with|.str z=>!zi5 z ""&&z.cps.size==1&&z.cps.all (· < 0x110000)|_=>false)=true:=by decide +kernel
theorem sign_is {d:D}(h:d∈signs allSigns):∃z:Str,d=.str z/\zi5 z ""=false/\zgh 1 z:=by
 have q:=List.all_eq_true.mp zh7.2.2 d h
 cases d with
 | str z =>
   simp only [Bool.and_eq_true,Bool.not_eq_true',beq_iff_eq] at q
   exact ⟨z,rfl,q.1.1,by rw [q.1.2];exact tqg 1,q.2⟩
 |_=>cases q
section
variable {P:Nat->Option Df}(hp_:HasP0 P)(ht_:HasT0 P){M:Mem}
include hp_ ht_
theorem sp_any (n:Nat){p B:Nat}(hp:za3 M p B)(hB:B<=900000):okE (zal P (n+4) 65 [.cell p] M) fun d M'=>∃z:Str,d=.str z/\zgh 1 z/\za3 M' p (B+1)/\zbv p M M':=by
 refine zay ht_.any rfl ?_
 show okE (zef _ [some (.cell p)] M) _
 simp only [zef,za5,zcy,zen,zbq,zbx,zbp,e_c,List.getElem?_cons_zero,Option.getD_some,Option.some.injEq,exists_eq_left']
 refine zay ht_.but rfl ?_
 show okE (zed _ [some (.cell p),some (.str ""),none,none] M) _
 simp only [zed,za5,zn4,zf9,zet,zcy,e_c,ze1,zbp,List.getElem?_cons_zero,List.getElem?_cons_succ,Option.getD_some,Option.some.injEq,exists_eq_left',List.set_cons_zero,List.set_cons_succ]
 refine z5m.mpr ?_
 simp only [zjq,w_seqS,zbp,List.getElem?_cons_zero,List.getElem?_cons_succ,Option.getD_some,Option.some.injEq,exists_eq_left',D.str.injEq]
 refine zqv (fun _=>true) (fun d=>d) (ds:=signs allSigns) (zax (by have:=zh7.1.2;omega)) rfl (fun d hd=>?_) ?_
 ·obtain ⟨z,rfl,hz,_⟩:=sign_is hd
  refine ⟨_,rfl,za2 ?_,fun _=>rfl⟩
  simp
  show some (!zi5 z "")=_
  rw [hz];rfl
 have ef:(List.filter (fun _=>true) (signs allSigns)).map (fun d=>d)=signs allSigns:=by simp
 rw [ef]
 refine zcn.mpr ⟨zax (by have:=zh7.1.2;omega),?_⟩
 simp only [zet,za5,zcy,zj1,zen,zbq,zbx,zec,zbp,List.getElem?_cons_zero,List.getElem?_cons_succ,Option.getD_some,Option.some.injEq,exists_eq_left',List.set_cons_zero,List.set_cons_succ,z4k]
 refine tk hp_ n hp (by omega) zh7.1.1 (by have:=zh7.1.2;omega) fun v M' hv q kk=>?_
 obtain ⟨z,e,_,hz⟩:=sign_is (List.getElem_mem hv)
 refine ⟨.str z,?_,z,rfl,hz,q,kk⟩
 show (ixN (signs allSigns).length (v:Int)).bind (fun j=>(signs allSigns)[j]?)=_
 rw [zg8 hv]
 simp [hv,e]
end
section
variable {P:Nat->Option Df}(hp_:HasP P)(ht_:HasT P){M:Mem}
include hp_ ht_
omit hp_ ht_ in
theorem zy4 {A B:Nat}{x y:Str}(hx:zgh A x)(hy:zgh B y):zgh (x.cps.size+y.cps.size) ⟨x.cps++y.cps⟩:=by
 refine ⟨by simp,?_⟩
 have h1:=hx.2
 have h2:=hy.2
 simp only [Array.all_append,h1,h2,Bool.and_self]
theorem zxk (n:Nat){p B L:Nat}{z:Str}(hz:zgh L z)(hL:L<=100)(hp:za3 M p B)(hB:B<=800000):okE (zal P (n+5) 66 [.cell p,.str z] M) fun d M'=>∃z':Str,d=.str z'/\zgh (L+1) z'/\za3 M' p (B+3)/\zbv p M M':=by
 refine zay ht_.signed rfl ?_
 show okE (ze6 _ [some (.cell p),some (.str z),none] M) _
 have zl:=hz.1
 have zsz:z.cps.size<=sz:=zax (by omega)
 simp only [ze6,za5,zn4,zf9,zet,zcy,zen,zbq,zbx,e_c,ze1,zbp,zec,e_slcS,List.getElem?_cons_zero,List.getElem?_cons_succ,Option.getD_some,Option.some.injEq,exists_eq_left',List.set_cons_zero,List.set_cons_succ]
 have el:∀{k:D->Mem->Prop},k (.int z.cps.size) M->okE (zff .len [.str z] M) k:=fun hk=>by
  show okE (if z.cps.size<=sz then Res.ok (D.int z.cps.size) M else .bad) _
  rw [if_pos zsz];exact hk
 refine el ?_
 rw [zft]
 rw [show ((z.cps.size:Int)+1)=((z.cps.size+1:Nat):Int) by omega]
 refine tk hp_ (n+2) hp (by omega) (by omega) (by omega) fun at_ M1 hat q1 k1=>?_
 refine ⟨rfl,rfl,z,0,at_,rfl,zsz,rfl,?_,?_⟩
 ·show some (if (at_:Int)<0 then _ else min (at_:Int).toNat z.cps.size)=_
  rw [if_neg (by omega)]
  congr 1
  simp;omega
 refine zbo (sp_any hp_ ht_ (M:=M1) (B:=B+1) (p:=p) n q1 (by omega)) fun d M2 ⟨y,ed,hy,q2,k2⟩=>?_
 subst ed
 have c1:=zy0 (i:=0) (j:=at_) hz
 have hs1:=zy4 c1.1 hy
 have s1:=c1.1.1
 have s2:=hy.1
 have w1:(zhw z 0 at_).cps.size+y.cps.size<=sz:=zax (by omega)
 refine (add_str w1).mpr ?_
 refine tk hp_ (n+2) (many:=2) q2 (by omega) (by decide) (by decide) fun v M3 hv q3 k3=>?_
 rw [zft]
 rw [show ((at_:Int)+(v:Int))=((at_+v:Nat):Int) by omega]
 refine ⟨rfl,rfl,z,min (at_+v) z.cps.size,z.cps.size,rfl,zsz,?_,rfl,?_⟩
 ·show some (if ((at_+v:Nat):Int)<0 then _ else min ((at_+v:Nat):Int).toNat z.cps.size)=_
  rw [if_neg (by omega)]
  congr 1
 have c2:=zy0 (i:=min (at_+v) z.cps.size) (j:=z.cps.size) hz
 have hs2:=zy4 hs1 c2.1
 have s3:=c2.2
 have s4:=hs1.1
 simp only at s4
 have w2:((zhw z 0 at_).cps++y.cps).size+(zhw z (min (at_+v) z.cps.size) z.cps.size).cps.size<=sz:=zax (by simp only [Array.size_append] at s4 ⊢;omega)
 refine (add_str w2).mpr ?_
 refine ⟨_,rfl,⟨?_,hs2.2⟩,q3,(k1.trans k2).trans k3⟩
 have:=hs2.1
 simp only [Array.size_append] at this ⊢
 omega
end
def zf5:List D:=[.non,.bl true,.bl false,.str "",.str "turn",.str "join",.str "move",.str "put",.str "Turn",.tup [],.lst [],.int (10^20),.int (-1),.int 0,.int 1,.int 4,.tup [.int 0],.lst [.int 0],.str "0",.int 7]
theorem zyd {x:D}(h:x∈zf5):Th 1 4 x:=by
 have st:∀z:Str,(z.cps.size<=4&&z.cps.all (· < 0x110000))=true->Th 1 4 (.str z):=fun z hz=>by
  simp only [Bool.and_eq_true,decide_eq_true_eq] at hz
  exact hz
 simp only [zf5,List.mem_cons,List.not_mem_nil,or_false] at h
 rcases h with rfl|rfl|rfl|rfl|rfl|rfl|rfl|rfl|rfl|rfl|rfl|rfl|rfl|rfl|rfl|rfl|rfl|rfl|rfl|rfl
 all_goals first
  |trivial
  |exact st _ (by decide +kernel)
  |exact ⟨by decide,fun d hd=>absurd hd List.not_mem_nil⟩
  |exact ⟨by decide,fun d hd=>by rw [List.mem_singleton.mp hd];trivial⟩
theorem zur {lo hi:D}{hl hh:Bool}{xs:List D}{M:Mem}{k:D->Mem->Prop}(h1:zci hl lo=true)(h2:zci hh hi=true)(hk:∀i j,k (.tup (cut xs i j)) M):okE (zew false (.tup xs) lo hi M) k:=by
 have q:∀{n d:Nat}{b:Bool}{x:D},zci b x=true->∃i,sIx n d x=some i:=fun {n d b x} h=>by
  cases b<;>cases x<;>first|exact ⟨_,rfl⟩|cases h
 obtain ⟨i,e1⟩:=q (n:=xs.length) (d:=0) h1
 obtain ⟨j,e2⟩:=q (n:=xs.length) (d:=xs.length) h2
 show okE (match sIx xs.length 0 lo,sIx xs.length xs.length hi with|some l,some h=>Res.ok (D.tup (cut xs l h)) M|_,_=>.bad) k
 rw [e1,e2]
 exact hk i j
theorem zi0 {xs:List D}{i j:Nat}:(cut xs i j).length<=xs.length/\(cut xs i j).length<=j/\∀d∈cut xs i j,d∈xs:=by
 refine ⟨?_,?_,fun d hd=>List.mem_of_mem_drop (List.mem_of_mem_take hd)⟩
 ·unfold cut;rw [List.length_take,List.length_drop];omega
 ·unfold cut;rw [List.length_take];omega
theorem slc_1 {xs:List D}{M:Mem}{k:D->Mem->Prop}(hk:∀ys:List D,ys.length<=1->(∀d∈ys,d∈xs)->k (.tup ys) M):okE (zew false (.tup xs) .non (.int 1) M) k:=by
 show okE (Res.ok (D.tup (cut xs 0 (min 1 xs.length))) M) k
 exact hk _ (tqh zi0.2.1 (by omega)) zi0.2.2
theorem slt_to {xs:List D}{a:Nat}{M:Mem}{k:D->Mem->Prop}(ha:a<xs.length)(hk:k (.tup (xs.take a)) M):okE (zew false (.tup xs) .non (nD a) M) k:=by
 show okE (Res.ok (D.tup (cut xs 0 (if (a:Int)<0 then _ else min (a:Int).toNat xs.length))) M) k
 rw [if_neg (by omega)]
 have:cut xs 0 (min (a:Int).toNat xs.length)=xs.take a:=by
  unfold cut
  rw [show min (a:Int).toNat xs.length-0=a by simp;omega,List.drop_zero]
 rw [this];exact hk
theorem zz4 {xs:List D}{a:Nat}{M:Mem}{k:D->Mem->Prop}(ha:a<xs.length)(hk:k (.tup (xs.drop (a+1))) M):okE (zew false (.tup xs) (.int ((a:Int)+1)) .non M) k:=by
 show okE (Res.ok (D.tup (cut xs (if (a:Int)+1<0 then _ else min ((a:Int)+1).toNat xs.length) xs.length)) M) k
 rw [if_neg (by omega)]
 have:cut xs (min ((a:Int)+1).toNat xs.length) xs.length=xs.drop (a+1):=by
  unfold cut
  rw [show min ((a:Int)+1).toNat xs.length=a+1 by omega,List.take_of_length_le (by simp)]
 rw [this];exact hk
theorem Th.tup_of {k L:Nat}{xs:List D}(hl:xs.length<=L)(h:∀d∈xs,Th k L d):Th (k+1) L (.tup xs):=⟨hl,h⟩
theorem Th.lst_of {k L:Nat}{xs:List D}(hl:xs.length<=L)(h:∀d∈xs,Th k L d):Th (k+1) L (.lst xs):=⟨hl,h⟩
def znt (c:Call):GS:=(zaf (zbc (zhm (zau (zcb .str (zad 1))) (zau (za9 .lt (zad 3) (gI 3)))) (zaf (zbb (zao 66 c (zaa (zad 0) (zaa (zad 1) zaj)))) zak) zak) (zaf (zbb (za4 (zad 7) (zad 4))) zak))
section
variable {P:Nat->Option Df}(hp_:HasP P)(ht_:HasT P)(hw_:HasW P){M:Mem}
include hp_ ht_ hw_
theorem zy8 (n:Nat){k L p B kind pick:Nat}{d:D}{x2 x5 x6 x8:Option D}(hd:Th k L d)(hk:k<=50)(h6:6<=L)(hL:L<=50)(hp:za3 M p B)(hB:B<=800000)(hpk:pick<20) :
 okE (znt (zal P (n+5)) [some (.cell p),some d,x2,some (nD kind),some (nD pick),x5,x6,some (.lst zf5),x8] M) (zhb fun d' M'=>Th (k+1) (L+1) d'/\za3 M' p (B+3)/\zbv p M M'):=by
 have fin:okE (zaf (zbb (za4 (zad 7) (zad 4))) zak [some (.cell p),some d,x2,some (nD kind),some (nD pick),x5,x6,some (.lst zf5),x8] M) (zhb fun d' M'=>Th (k+1) (L+1) d'/\za3 M' p (B+3)/\zbv p M M'):=by
  have hl:pick<zf5.length:=hpk
  exact zdy (v:=zf5[pick]) (zav (by simp [-zu5,zmn hl])) ⟨(zyd (List.getElem_mem hl)).mono (by omega) (by omega),hp.mono (by omega),.refl⟩
 unfold znt
 cases d with
 |fn j=>exact absurd hd (by cases k<;>exact id)
 |exc y p=>exact absurd hd (by cases k<;>exact id)
 | str z =>
   have hz:zgh L z:=by cases k<;>exact hd
   by_cases c:(kind:Int)<3
   ·simp only [za5,zjd,t_and,zio,ztt,zbp,zh2,e_c,List.getElem?_cons_zero,List.getElem?_cons_succ,Option.getD_some,Option.some.injEq,exists_eq_left',zcy,zen,zbq,zbx]
    refine ⟨true,rfl,true,rfl,?_⟩
    rw [if_pos rfl]
    refine ⟨_,rfl,_,rfl,?_⟩
    rw [decide_eq_true c,if_pos rfl]
    exact zbo (zxk hp_ ht_ n hz (by omega) hp hB) fun d' M' ⟨z',e,h1,h2,h3⟩=>⟨by rw [e];exact h1.th.mono (tqg _) (tqg _),h2,h3⟩
   ·refine zar (za2 ?_) fin
    simp [zca]
    omega
 |_=>exact zar rfl fin
omit hp_ ht_ hw_ in
theorem zyc {k:Fl->Mem->Prop}{rest:GS}{M:Mem}{x0 x1 x2 x3 x4 x5 x6 x7 x8:Option D}(hk:okE (rest [x0,x1,x2,x3,x4,x5,x6,some (.lst zf5),x8] M) k) :
 okE (zaf (za6 (.one 7) (zbd false (zaa gN (zaa gTt (zaa gFf (zaa (gS "") (zaa (gS "turn") (zaa (gS "join") (zaa (gS "move") (zaa (gS "put") (zaa (gS "Turn") (zaa (zc4 zaj) (zaa (zbd false zaj) (zaa (zaq false .pow (gI 10) (gI 20)) (zaa (zfn (gI 1)) (zaa (gI 0) zaj)))))))))))))))) (zaf (za6 (.one 7) (zaq false .add (zad 7) (zbd false (zaa (gI 1) (zaa (gI 4) (zaa (zc4 (zaa (gI 0) zaj)) (zaa (zbd false (zaa (gI 0) zaj)) (zaa (gS "0") (zaa (gI 7) zaj))))))))) rest) [x0,x1,x2,x3,x4,x5,x6,x7,x8] M) k:=by
 simp only [za5,zf9]
 have e:((zbd false (zaa gN (zaa gTt (zaa gFf (zaa (gS "") (zaa (gS "turn") (zaa (gS "join") (zaa (gS "move") (zaa (gS "put") (zaa (gS "Turn") (zaa (zc4 zaj) (zaa (zbd false zaj) (zaa (zaq false .pow (gI 10) (gI 20)) (zaa (zfn (gI 1)) (zaa (gI 0) zaj))))))))))))))):GE) [x0,x1,x2,x3,x4,x5,x6,x7,x8] M=.ok (.lst (zf5.take 14)) M:=by rfl
 rw [e]
 show okE (zaf _ rest [x0,x1,x2,x3,x4,x5,x6,some (.lst (zf5.take 14)),x8] M) k
 simp only [za5,zf9]
 have e2:((zaq false .add (zad 7) (zbd false (zaa (gI 1) (zaa (gI 4) (zaa (zc4 (zaa (gI 0) zaj)) (zaa (zbd false (zaa (gI 0) zaj)) (zaa (gS "0") (zaa (gI 7) zaj)))))))):GE) [x0,x1,x2,x3,x4,x5,x6,some (.lst (zf5.take 14)),x8] M=.ok (.lst zf5) M:=by rfl
 rw [e2]
 exact hk
def zm1 (c:Call):GS:=zaf (zbc (zau (zcb .tuple (zad 1))) (zaf (za6 (.one 8) (zbd false (zaa (zbh (.list false) (zaa (zad 1) zaj)) (zaa (zaq false .add (zad 1) (zct false false true (zad 1) gN (gI 1))) (zaa (zct false false true (zad 1) gN (zfn (gI 1))) (zaa (gRev false (zad 1)) (zaa (zaq false .add (zad 1) (zc4 (zaa (zad 5) zaj))) (zaa (zct false true false (zad 1) (gI 1) gN) (zaa (zc4 (zaa (zad 1) zaj)) zaj))))))))) (zaf (zbb (za4 (zaq false .add (zad 8) (zbd false (zaa (za4 (zad 7) (zad 4)) zaj))) (zad 3))) zak)) zak) (zaf (zbc (zau (zao 67 c (zaa (zad 1) zaj))) (zaf (zbb (za4 (zbd false (zaa (zaq false .add (zad 1) (gI 1)) (zaa (zaq false .sub (zad 1) (gI 1)) (zaa (zaq false .sub (gI 0) (zad 1)) (zaa (zad 5) (zaa (zad 5) (zaa (za9 .eq (zad 1) (gI 1)) (zaa (zaq false .sub (gI 3) (zad 1)) (zaa (za4 (zad 7) (zad 4)) zaj))))))))) (zad 3))) zak) zak) (znt c))
theorem z2a (n:Nat){k L p B kind pick:Nat}{num:Int}{d:D}{x2 x6 x8:Option D}(hd:Th k L d)(hk:k<=50)(h6:6<=L)(hL:L<=50)(hp:za3 M p B)(hB:B<=800000)(hkd:kind<8)(hpk:pick<20) :
 okE (zm1 (zal P (n+5)) [some (.cell p),some d,x2,some (nD kind),some (nD pick),some (.int num),x6,some (.lst zf5),x8] M) (zhb fun d' M'=>Th (k+1) (L+1) d'/\za3 M' p (B+3)/\zbv p M M'):=by
 have hl:pick<zf5.length:=hpk
 have ho:Th (k+1) (L+1) zf5[pick]:=(zyd (List.getElem_mem hl)).mono (by omega) (by omega)
 have pick8:∀{xs:List D},xs.length=8->(∀x∈xs,Th (k+1) (L+1) x)->∃x,zf6 (.lst xs) (nD kind) M=some x/\Th (k+1) (L+1) x:=fun {xs} h8 h=>⟨_,zmn (by omega),h _ (List.getElem_mem _)⟩
 unfold zm1
 have tail:=zy8 hp_ ht_ hw_ n (x2:=x2) (x5:=some (.int num)) (x6:=x6) (x8:=x8) (kind:=kind) hd hk h6 hL hp hB hpk
 cases d with
 |fn j=>exact absurd hd (by cases k<;>exact id)
 |exc y p=>exact absurd hd (by cases k<;>exact id)
 | tup xs =>
   refine zjm (za2 (by simp [zca])) ?_
   simp only [za5,zf9,zcy,zmu,zbq,zbx,zbp,zec,ze1,zmt,ziu,e_neg,e_rev,e_c,zj1,List.getElem?_cons_zero,List.getElem?_cons_succ,Option.getD_some,Option.some.injEq,exists_eq_left',List.set_cons_zero,List.set_cons_succ]
   have hx:=hd.tup
   have hxl:=hx.1
   have hx1:∀d∈xs,Th k (L+1) d:=fun d hd=>(hx.2 d hd).mono (tqg _) (by omega)
   have up:∀{ys:List D},ys.length<=L+1->(∀d∈ys,d∈xs\/Th k (L+1) d)->Th (k+1) (L+1) (.tup ys):=fun {ys} hl h=>.tup_of hl fun d hd=>by
    rcases h d hd with z|z
    ·exact hx1 d z
    ·exact z
   refine z1g.mpr (zcn.mpr ⟨zax (by omega),rfl,rfl,slc_1 fun ys y1 y2=>?_⟩)
   refine zo0.mpr ⟨zax (by simp;omega),1,rfl,rfl,rfl,zur (hl:=false) (hh:=true) rfl rfl fun i2 j2=>z3n.mpr ⟨zax (by simp),zo0.mpr ⟨zax (by simp;omega),rfl,rfl,zur (hl:=true) (hh:=false) rfl rfl fun i3 j3=>⟨zax (by simp),zcn.mpr ⟨zax (by simp),?_⟩⟩⟩⟩⟩
   obtain ⟨x,e1,e2⟩:=pick8 (xs:=[.lst xs,.tup (xs++ys),.tup (cut xs i2 j2),.tup xs.reverse,.tup (xs++[.int num]),.tup (cut xs i3 j3),.tup [.tup xs]]++[zf5[pick]]) rfl (fun x hx'=>by
    simp only [List.cons_append,List.nil_append,List.mem_cons,List.not_mem_nil,or_false] at hx'
    rcases hx' with rfl|rfl|rfl|rfl|rfl|rfl|rfl|rfl
    ·exact .lst_of (by omega) hx1
    ·exact up (by simp;omega) fun d hd=>(List.mem_append.mp hd).elim .inl fun z=>.inl (y2 d z)
    ·exact up (tqh zi0.1 (by omega)) fun d hd=>.inl (zi0.2.2 d hd)
    ·exact up (by simp;omega) fun d hd=>.inl (List.mem_reverse.mp hd)
    ·exact up (by simp;omega) fun d hd=>by
      rcases List.mem_append.mp hd with z|z
      ·exact .inl z
      ·rw [List.mem_singleton.mp z];exact .inr (by cases k<;>trivial)
    ·exact up (tqh zi0.1 (by omega)) fun d hd=>.inl (zi0.2.2 d hd)
    ·exact .tup_of (by simp) fun d hd'=>by rw [List.mem_singleton.mp hd'];exact hd.mono (tqg _) (by omega)
    ·exact ho)
   refine zdy (v:=x) (zav ?_) ⟨e2,hp.mono (by omega),.refl⟩
   simp only [zj1,ze1,zbp,zmu,zbq,zbx]
   exact ⟨_,rfl,_,rfl,_,rfl,_,zmn hl,zcn.mpr ⟨zax (by simp),zo1.mpr (zcn.mpr ⟨zax (by simp),_,rfl,x,e1,rfl,rfl⟩)⟩⟩
 | int i =>
   have qw:=zlv hw_ (n+4) (M:=M) hd
   refine zar (za2 (by simp [zca])) (zjm (za2 (by simp [qw,znx])) ?_)
   simp only [za5,zcy,zmu,zbq,zbx,zbp,ze1,e_c,zj1,zh2,List.getElem?_cons_zero,List.getElem?_cons_succ,Option.getD_some,Option.some.injEq,exists_eq_left',zft,zn0]
   refine ⟨_,rfl,_,zmn hl,zcn.mpr ⟨zax (by simp),?_⟩⟩
   obtain ⟨x,e1,e2⟩:=pick8 (xs:=[.int (i+1),.int (i-1),.int (0-i),.int num,.int num,.bl (i==1),.int (3-i),zf5[pick]]) rfl (fun x hx=>by
    simp only [List.mem_cons,List.not_mem_nil,or_false] at hx
    rcases hx with rfl|rfl|rfl|rfl|rfl|rfl|rfl|rfl
    all_goals first|exact ho|trivial)
   exact ⟨x,e1,e2,hp.mono (by omega),.refl⟩
 | _ =>
   have qw:=zlv hw_ (n+4) (M:=M) hd
   exact zar (za2 (by simp [zca])) (zar (za2 (by simp [qw,znx])) tail)
omit hp_ ht_ hw_ in
theorem z1a {k L:Nat}{xs:List D}(h:Th k L (.tup xs))(hk:k<=60):zb2 .ne (.tup xs) (.tup []) M=some (!xs.isEmpty):=by
 refine zmy (h.mono (n':=64) (by omega) (tqg L)).pure rfl ?_
 cases xs<;>rfl
theorem zq4 (n deep:Nat){k L p B:Nat}{d:D}(hd:Th k L d)(hk:k<=50)(h6:6<=L)(hL:L<=50)(hp:za3 M p B)(hB:B<=700000)
 (ih:0<deep->∀{k' B':Nat}{d':D}{M':Mem},Th k' L d'->k'<=50->za3 M' p B'->B'<=B+4->okE (zal P (n+deep+5) 72 [.cell p,d',.int ((deep:Int)-1)] M') fun e M''=>Th (k'+1) (L+1) e/\za3 M'' p (B'+6*deep)/\zbv p M' M'') :
 okE (zal P (n+deep+6) 72 [.cell p,d,nD deep] M) fun d' M'=>Th (k+1) (L+1) d'/\za3 M' p (B+6*(deep+1))/\zbv p M M':=by
 refine zay ht_.bent rfl ?_
 show okE (zaf _ (zaf _ (zaf _ (zaf (zbc _ _ zak) (zaf _ (zaf _ (zm1 (zal P (n+deep+5)))))))) [some (.cell p),some d,some (nD deep),none,none,none,none,none,none] M) _
 simp only [za5,zf9,zet,zen,zbq,zbx,e_c,zbp,ze1,List.getElem?_cons_zero,List.getElem?_cons_succ,Option.getD_some,Option.some.injEq,exists_eq_left',List.set_cons_zero,List.set_cons_succ]
 refine tk hp_ (n+deep+3) (many:=8) hp (by omega) (by decide) (by decide) fun kind M1 hkd q1 k1=>?_
 refine tk hp_ (n+deep+3) (many:=20) q1 (by omega) (by decide) (by decide) fun pick M2 hpk q2 k2=>?_
 refine tk hp_ (n+deep+3) (many:=9) q2 (by omega) (by decide) (by decide) fun num M3 hnm q3 k3=>?_
 rw [zn0]
 have K3:=(k1.trans k2).trans k3
 have mid:okE (zaf _ (zaf _ (zm1 (zal P (n+deep+5)))) [some (.cell p),some d,some (nD deep),some (nD kind),some (nD pick),some (.int ((num:Int)-2)),none,none,none] M3) (zhb fun d' M'=>Th (k+1) (L+1) d'/\za3 M' p (B+6*(deep+1))/\zbv p M M'):=
  zyc (zbo (z2a hp_ ht_ hw_ (n+deep) hd hk h6 hL q3 (by omega) hkd hpk) fun fl M' hf=>by
   cases fl with
   |next Z=>exact ⟨hf.1,hf.2.1.mono (by omega),K3.trans hf.2.2⟩
   |ret e=>exact ⟨hf.1,hf.2.1.mono (by omega),K3.trans hf.2.2⟩
   |exc x Z=>exact hf.elim)
 refine za5.mp ?_
 cases d with
 |fn j=>exact absurd hd (by cases k<;>exact id)
 |exc y p=>exact absurd hd (by cases k<;>exact id)
 | tup xs =>
   have ne:=z1a (M:=M3) hd (by omega)
   by_cases hc:xs≠[]/\0<deep/\4<pick
   ·obtain ⟨c1,c2,c3⟩:=hc
    have lx:0<xs.length:=List.length_pos_iff.mpr c1
    have ei:xs.isEmpty=false:=by cases xs with|nil=>exact absurd rfl c1|cons _ _=>rfl
    rw [ei] at ne
    refine zjm (za2 (by simp [zca,ne];omega)) ?_
    have hx:=hd.tup
    have hxl:=hx.1
    cases k with
    |zero=>exact hd.elim
    | succ k' =>
      have hx':∀d∈xs,Th k' L d:=hd.2
      simp only [za5,zf9,zcy,zet,ziu,zj1,zmt,zen,zbq,zbx,e_c,zbp,ze1,zec,List.getElem?_cons_zero,List.getElem?_cons_succ,Option.getD_some,Option.some.injEq,exists_eq_left',List.set_cons_zero,List.set_cons_succ,zkr,zft,zn0]
      refine tk hp_ (n+deep+3) q3 (by omega) lx (by omega) fun at_ M4 hat q4 k4=>?_
      refine ⟨rfl,rfl,slt_to hat ?_⟩
      refine ⟨xs[at_],?_,?_⟩
      ·show (ixN xs.length (at_:Int)).bind (fun j=>xs[j]?)=_
       rw [zg8 hat];simp [hat]
      refine zbo (ih c2 (hx' _ (List.getElem_mem hat)) (by omega) q4 (by omega)) fun e M5 ⟨he,q5,k5⟩=>?_
      refine ⟨zax (by simp),zo0.mpr ⟨zax (by simp;omega),rfl,rfl,zz4 hat ?_⟩⟩
      refine zo0.mpr ⟨zax (by simp;omega),.tup_of (by simp;omega) fun d hd=>?_,q5.mono (by omega),(K3.trans k4).trans k5⟩
      rcases List.mem_append.mp hd with z|z
      ·rcases List.mem_append.mp z with z|z
       ·exact (hx' d (List.mem_of_mem_take z)).mono (by omega) (by omega)
       ·rw [List.mem_singleton.mp z];exact he
      ·exact (hx' d (List.mem_of_mem_drop z)).mono (by omega) (by omega)
   ·refine zar (za2 ?_) mid
    simp [zca,ne]
    by_cases e0:xs=[]
    ·simp [e0]
    ·right
     refine ⟨e0,?_⟩
     have hc':¬ (0<deep/\4<pick):=fun z=>hc ⟨e0,z⟩
     omega
 |_=>exact zar (za2 (by simp [zca])) mid
theorem zuq:∀(deep n:Nat) {k L p B:Nat}{d:D}{M:Mem},deep<=9->Th k L d->k<=50->6<=L->L<=50->za3 M p B->B+10*deep<=700000->
 okE (zal P (n+deep+6) 72 [.cell p,d,nD deep] M) fun d' M'=>Th (k+1) (L+1) d'/\za3 M' p (B+6*(deep+1))/\zbv p M M'
 |0,n,k,L,p,B,d,M,h9,hd,hk,h6,hL,hp,hB=>zq4 hp_ ht_ hw_ n 0 hd hk h6 hL hp (by omega) (fun z=>absurd z (by decide))
 |deep+1,n,k,L,p,B,d,M,h9,hd,hk,h6,hL,hp,hB=>zq4 hp_ ht_ hw_ n (deep+1) hd hk h6 hL hp (by omega) (fun _ {k' B' d' M'} h1 h2 h3 h4=>by
  rw [show (((deep+1:Nat):Int)-1)=(deep:Int) by omega]
  exact zuq deep n (by omega) h1 h2 h6 hL h3 (by omega))
end
end LD
namespace LD
open PySem
section
variable {P:Nat->Option Df}{M:Mem}{k L:Nat}{d:D}
theorem zta (h:HasQ P)(h13:P 13=some ⟨1,1,zc9⟩)(n:Nat)(hd:Th k L d)(hL:L<=100)(hb:zex d=true):zal P (n+8) 13 [d] M=.ok .non M:=by
 refine zav (zay h13 rfl ?_)
 simp [zc9,znd h n hd hL,hb]
theorem zyf (h:HasQ P)(h13:P 13=some ⟨1,1,zc9⟩)(n:Nat)(hd:Th k L d)(hL:L<=100)(hb:zex d=false):zal P (n+8) 13 [d] M=.err (.exc 3 none) M:=by
 refine zfo (zgr h13 rfl ?_)
 simp [zc9,znd h n hd hL,hb]
 decide
end
section
variable {P:Nat->Option Df}(h:zrs P){M:Mem}
include h
theorem zqg (n:Nat){z:Str}(hz:zas 64 (.str z)=true):zal P (n+1) 40 [.str z,.str z] M=.ok (.bl true) M:=by
 refine zav (zay h.same rfl ?_)
 have e:zb2 .eq (.str z) (.str z) M=some true:=zp1 hz hz (by simp [view,zbr])
 show okE (zc6 (zal P n) [some (.str z),some (.str z)] M) _
 unfold zc6
 refine zar rfl (zar rfl (zar rfl (zbw rfl (v:=.bl true) ?_ ⟨rfl,rfl⟩)))
 show ((ofO M (zb2 .eq (.str z) (.str z) M)).bind fun b M=>Res.ok (D.bl b) M)=_
 rw [e];rfl
end
end LD
namespace LD
open PySem
def zkc (i:Int):List D:=[.exc 0 (some i),.exc 1 (some i),.exc 2 (some i),.exc 3 none,.exc 4 none,.exc 5 none,.exc 6 none,.exc 7 none,.exc 8 none,.exc 9 none,.exc 10 none,.exc 11 none,.exc 12 none,.exc 13 none]
def zf4:D->D
 |.exc 0 (some i)=>.lst [.str "row",.int i]
 |.exc 1 (some i)=>.lst [.str "rule",.int i]
 |.exc 2 (some i)=>.lst [.str "step",.int i]
 |.exc 3 _=>.lst [.str "machine"]
 |.exc 4 _=>.lst [.str "long"]
 |.exc 5 _=>.lst [.str "word"]
 |.exc 6 _=>.lst [.str "work"]
 |.exc 7 _=>.lst [.str "bound"]
 |.exc 8 _=>.lst [.str "many"]
 |.exc 9 _=>.lst [.str "place"]
 |.exc 10 _=>.lst [.str "deed"]
 |.exc 11 _=>.lst [.str "nothing"]
 |.exc 12 _=>.lst [.str "text"]
 |.exc 13 _=>.lst [.str "line"]
 |_=>.non
theorem zp3 {f:Str}{c j:Nat}{i:Int}{Z:Env}{M:Mem}(h:Z[j]?.getD none=some (.exc c (some i)))(e:zfc c=f):zjn f (zad j) Z M=.ok (.int i) M:=by
 unfold zjn zad
 rw [h]
 show (if zfc c=f then Res.ok (D.int i) M else .bad)=_
 rw [if_pos e]
theorem lst2 {x:D}{a:GE}{Z:Env}{M:Mem}{y:D}(e:a Z M=.ok y M):zbd false (zaa (gC x) (zaa a zaj)) Z M=.ok (.lst [x,y]) M:=by
 exact zkq (zaw rfl (zaw e rfl)) (tqq rfl)
section
variable {P:Nat->Option Df}(h75:P 75=some ⟨1,3,zd0⟩){M:Mem}
include h75
theorem zvg (n:Nat){i:Int}{d:D}(hd:d∈zkc i):zal P (n+1) 75 [d] M=.ok (zf4 d) M:=by
 refine zav (zay h75 rfl ?_)
 show okE (zd0 (zal P n) [some d,none,none] M) _
 simp only [zkc,List.mem_cons,List.not_mem_nil,or_false] at hd
 rcases hd with rfl|rfl|rfl|rfl|rfl|rfl|rfl|rfl|rfl|rfl|rfl|rfl|rfl|rfl
 ·exact zcg rfl (zcg rfl (zcg rfl (zcg rfl (zcg rfl (zar rfl (zbw rfl (lst2 (zp3 rfl rfl)) ⟨rfl,rfl⟩))))))
 ·exact zcg rfl (zcg rfl (zcg rfl (zcg rfl (zcg rfl (zar rfl (zar rfl (zbw rfl (lst2 (zp3 rfl rfl)) ⟨rfl,rfl⟩)))))))
 ·exact zcg rfl (zcg rfl (zcg rfl (zcg rfl (zcg rfl (zar rfl (zar rfl (zar rfl (zbw rfl (lst2 (zp3 rfl rfl)) ⟨rfl,rfl⟩))))))))
 all_goals exact zc2 (by rfl)
end
section
variable {P:Nat->Option Df}(h:zrs P){M:Mem}
include h
theorem zn1 (n:Nat){ds:List D}(hz:ds.length<=sz)(hs:∀d∈ds,zal P n 40 [d,d] M=.ok (.bl true) M):zal P (n+1) 40 [.lst ds,.lst ds] M=.ok (.bl true) M:=by
 refine zav (zay h.same rfl ?_)
 show okE (zc6 (zal P n) [some (.lst ds),some (.lst ds)] M) _
 unfold zc6
 exact zar rfl (zar rfl (zar rfl (zar rfl (zar rfl (zz8 h n rfl rfl rfl rfl rfl rfl hz hs)))))
theorem zxm (n:Nat)(i:Int):zal P (n+1) 40 [.int i,.int i] M=.ok (.bl true) M:=by
 refine zav (zay h.same rfl ?_)
 show okE (zc6 (zal P n) [some (.int i),some (.int i)] M) _
 unfold zc6
 exact zar rfl (zar rfl (zbw rfl (v:=.bl (i==i)) rfl ⟨by simp,rfl⟩))
end
end LD
namespace LD
open PySem
@[simp] theorem zqj {Z:Env}{M:Mem}{a:GE}{kf:Fl->Mem->Prop}{c:Nat}:okE (zhq c a Z M) kf↔okE (a Z M) fun x M=>∃i,x=.int i/\i.natAbs<2^64/\kf (.exc (.exc c (some i)) Z) M:=by
 unfold zhq
 cases a Z M with
 | ok x M1 =>
   cases x with
   |int i=>by_cases h:i.natAbs<2^64<;>simp [h]
   |_=>simp
 |err=>exact Iff.rfl
 |bad=>exact Iff.rfl
abbrev dnB (m:zcc):D->Bool:=zbt 0 ((m.deeds.length:Int)-1)
section
variable {P:Nat->Option Df}(h:HasM0 P){M:Mem}{k L:Nat}{d:D}
include h
theorem zsb (n:Nat){m:zcc}(hd:Th k L d):zal P (n+2) 16 [m.d,d] M=.ok (.bl (dnB m d)) M:=by
 refine zav (zay h.is_deed_number rfl ?_)
 simp [zd4,zcc.d,ixN,ziz h.q _ hd]
theorem z4d (n:Nat){m:zcc}{ds:List D}(hd:∀d∈ds,Th k L d)(hg:∀d∈ds,dnB m d=true):zal P (n+3) 17 [m.d,.lst ds] M=.ok .non M:=by
 refine zav (zay h.need_numbers rfl ?_)
 show okE (zco (zal P (n+2)) [some m.d,some (.lst ds),none,none] M) _
 unfold zco
 refine zar rfl ?_
 simp only [za5,zh8,zlr,zbp]
 refine ⟨_,rfl,rfl,?_⟩
 refine zgu (ds:=zdd 0 ds) (fun i Z M'=>M'=M/\∃a b,Z=[some m.d,some (.lst ds),a,b]) (fun _ _ _ e=>rfl) ⟨rfl,none,none,rfl⟩ ?_ ?_
 ·rintro i e Z M' he ⟨rfl,a,b,rfl⟩
  rw [zeb] at he
  obtain ⟨x,hx,rfl⟩:=Option.map_eq_some_iff.mp he
  have hm:=List.mem_of_getElem? hx
  refine ⟨_,rfl,zar (za2 ?_) ⟨_,rfl,rfl,_,_,rfl⟩⟩
  simp [zsb h n (hd x hm),hg x hm]
 ·rintro Z M' ⟨rfl,a,b,rfl⟩
  exact ⟨rfl,rfl⟩
theorem z0t (n:Nat){m:zcc}{ds:List D}{i:Nat}{x:D}(hd:∀d∈ds,Th k L d)(hx:ds[i]?=some x)(hb:dnB m x=false)(hg:∀j y,j<i->ds[j]?=some y->dnB m y=true)(hi:i<1000000):zal P (n+3) 17 [m.d,.lst ds] M=.err (.exc 0 (some (i:Int))) M:=by
 refine zfo (zgr h.need_numbers rfl ?_)
 show okE (zco (zal P (n+2)) [some m.d,some (.lst ds),none,none] M) _
 unfold zco
 refine zar rfl ?_
 simp only [za5,zh8,zlr,zbp]
 refine ⟨_,rfl,rfl,?_⟩
 refine zi4 (ds:=zdd 0 ds) (fun j fl M'=>M'=M/\((j<=i/\∃a b,fl=.next [some m.d,some (.lst ds),a,b])\/(i<j/\∃Z,fl=.exc (.exc 0 (some (i:Int))) Z))) (fun _ _ _ e=>rfl) ⟨rfl,.inl ⟨Nat.zero_le _,none,none,rfl⟩⟩ ?_ ?_
 ·rintro j e fl M' he ⟨rfl,hj⟩
  rw [zeb] at he
  obtain ⟨y,hy,rfl⟩:=Option.map_eq_some_iff.mp he
  rcases hj with ⟨hj,a,b,rfl⟩|⟨hj,Z,rfl⟩
  ·show okE (zaf _ zak [some m.d,some (.lst ds),some (.int ((0+j:Nat):Int)),some y] M') _
   rw [Nat.zero_add]
   have e:=zsb h n (m:=m) (M:=M') (hd y (List.mem_of_getElem? hy))
   by_cases c:j=i
   ·subst c
    rw [hx] at hy;cases hy
    rw [hb] at e
    refine zjm (za2 (by simp [e])) ?_
    simp only [za5,zqj,zbp]
    exact ⟨_,rfl,_,rfl,by omega,rfl,.inr ⟨Nat.lt_succ_self _,_,rfl⟩⟩
   ·rw [hg j y (by omega) hy] at e
    exact zar (za2 (by simp [e])) ⟨rfl,.inl ⟨by omega,_,_,rfl⟩⟩
  ·exact ⟨rfl,.inr ⟨by omega,_,rfl⟩⟩
 ·rintro fl M' ⟨rfl,hj⟩
  have hlt:=(List.getElem?_eq_some_iff.mp hx).1
  have:(zdd 0 ds).length=ds.length:=zhc ds 0
  rcases hj with ⟨hj,_⟩|⟨_,Z,rfl⟩
  ·omega
  ·exact ⟨rfl,rfl⟩
theorem z0s (n:Nat){m:zcc}(hd:zca .list d=some false):zal P (n+3) 17 [m.d,d] M=.err (.exc 0 (some 0)) M:=by
 refine zfo (zgr h.need_numbers rfl ?_)
 show okE (zco (zal P (n+2)) [some m.d,some d,none,none] M) _
 unfold zco
 refine zjm (za2 (by simp [hd])) ?_
 simp only [za5,zqj,e_c]
 exact ⟨0,rfl,by decide,rfl,rfl⟩
theorem zsm (n:Nat){r:D}(hd:Th k L d)(hL:L<=100)(hb:zex d=false):zal P (n+9) 18 [d,r] M=.err (.exc 3 none) M:=by
 refine zfo (zgr h.need_row rfl ?_)
 show okE (zdo (zal P (n+8)) [some d,some r] M) _
 unfold zdo
 simp only [za5,zkl,ze9,zbq,zbx,zbp]
 refine ⟨_,rfl,?_⟩
 rw [zyf h.q h.need_machine n hd hL hb]
 exact ⟨rfl,rfl⟩
theorem zsl (n:Nat){m:zcc}{r:D}{x:D}(hm:zdf m)(e:zal P (n+8) 17 [m.d,r] M=.err x M):zal P (n+9) 18 [m.d,r] M=.err x M:=by
 refine zfo (zgr h.need_row rfl ?_)
 show okE (zdo (zal P (n+8)) [some m.d,some r] M) _
 unfold zdo
 simp only [za5,zkl,ze9,zbq,zbx,zbp]
 refine ⟨_,rfl,?_⟩
 rw [zta h.q h.need_machine n (zkp hm) (by decide) (zjx hm)]
 show okE (zaf _ _ [some m.d,some r] M) _
 simp only [za5,zkl,ze9,zbq,zbx,zbp]
 refine ⟨_,rfl,_,rfl,?_⟩
 rw [e]
 exact ⟨rfl,rfl⟩
theorem z0b (n:Nat){m:zcc}{ds:List D}(hm:zdf m)(e:zal P (n+8) 17 [m.d,.lst ds] M=.ok .non M)(hl:40<ds.length):zal P (n+9) 18 [m.d,.lst ds] M=.err (.exc 4 none) M:=by
 refine zfo (zgr h.need_row rfl ?_)
 show okE (zdo (zal P (n+8)) [some m.d,some (.lst ds)] M) _
 unfold zdo
 simp only [za5,zkl,ze9,zbq,zbx,zbp]
 refine ⟨_,rfl,?_⟩
 rw [zta h.q h.need_machine n (zkp hm) (by decide) (zjx hm)]
 show okE (zaf _ _ [some m.d,some (.lst ds)] M) _
 simp only [za5,zkl,ze9,zbq,zbx,zbp]
 refine ⟨_,rfl,_,rfl,?_⟩
 rw [e]
 refine zjm (za2 ?_) ?_
 ·simp only [zio,zh2,zec,zbq,zbx,zbp,e_c]
  refine ⟨_,rfl,_,rfl,_,rfl,?_,rfl⟩
  exact decide_eq_true (by omega)
 ·exact ⟨rfl,rfl⟩
end
end LD
namespace LD
open PySem
section
variable {Z:Env}{M:Mem}{kf:Fl->Mem->Prop}{rest gb:GS}{a:GE}{s:GA}
theorem ne_self {z:Str}(hz:zas 64 (.str z)=true):zb2 .ne (.str z) (.str z) M=some false:=zmy (v:=true) (x:=.str z) (y:=.str z) hz hz (by simp [view,zbr])
theorem said_at {c:Call}{f:Nat}{xs:List D}{z:Str}(hz:zas 64 (.str z)=true)(es:s Z M=.ok xs M)(ec:c f xs M=.ok (.str z) M):(zau (za9 .ne (zao f c s) (gC (.str z))):GT) Z M=.ok false M:=by
 refine za2 ?_
 simp only [zio,zh2,e_c]
 rw [zcx es,ec,zjw]
 exact ⟨_,ne_self hz,false,rfl,rfl,rfl⟩
theorem ztq {tg:Tgt}{ds:List D}(I:Env->Prop)(e:a Z M=.ok (.lst ds) M)(h0:I Z)(hs:∀d∈ds,∀Z,I Z->∃ρ1,zde tg d Z=some ρ1/\okE (gb ρ1 M) fun fl M'=>∃ρ',fl=.next ρ'/\I ρ'/\M'=M)(hk:∀Z,I Z->okE (rest Z M) kf):okE (zaf (zik tg (zf7 a) gb) rest Z M) kf:=by
 simp only [za5,zh8,w_seq]
 rw [e,zjw]
 refine ⟨rfl,zgu (ds:=ds) (fun i Z M'=>I Z/\M'=M) (fun _ _ _ _=>rfl) ⟨h0,rfl⟩ ?_ ?_⟩
 ·rintro i d Z M' hd ⟨hI,rfl⟩
  obtain ⟨ρ1,e1,o⟩:=hs d (List.mem_of_getElem? hd) Z hI
  exact ⟨ρ1,e1,zbo o fun fl M2 ⟨ρ',e2,e3,e4⟩=>⟨ρ',e2,e3,e4⟩⟩
 ·rintro Z M' ⟨hI,rfl⟩
  exact hk Z hI
theorem to_at {j l:Nat}{xs:List D}{v:Nat}(h1:Z[j]?.getD none=some (.lst xs))(h2:Z[l]?.getD none=some (nD v))(hz:xs.length<=100):zct false false true (zad j) gN (zad l) Z M=.ok (.lst (xs.take v)) M:=by
 refine zav ?_
 simp only [zmt,zbp,e_c]
 exact ⟨_,h1,_,h2,rfl,rfl,zo8.mpr ⟨zax (by simp;omega),rfl,rfl⟩⟩
theorem z4q {j l:Nat}{xs:List D}{v:Nat}(h1:Z[j]?.getD none=some (.lst xs))(h2:Z[l]?.getD none=some (nD v))(hz:xs.length<=100):zct false true false (zad j) (zad l) gN Z M=.ok (.lst (xs.drop v)) M:=by
 refine zav ?_
 simp only [zmt,zbp,e_c]
 exact ⟨_,h1,_,h2,rfl,rfl,zse.mpr ⟨zax (by simp;omega),rfl,rfl⟩⟩
end
theorem z0u {m:zcc}{i:Nat}(hi:i<m.deeds.length):dnB m (nD i)=true:=by
 show (decide ((0:Int)<=(i:Int))&&decide ((i:Int)<=(m.deeds.length:Int)-1))=true
 rw [decide_eq_true (by omega),decide_eq_true (by omega)];rfl
def zeros (n:Nat):List D:=List.replicate n (.int 0)
end LD
namespace LD
open PySem
structure Good (b:Nat) (x:D):Prop where
 sh:(toPy x).showable=true
 short:PyData.leavesShort 40 (toPy x)=true
 bulk:(toPy x).bulk<=b
def zrp (b:Nat)(x:D):Bool:=(toPy x).showable&&(PyData.leavesShort 40 (toPy x)&&decide ((toPy x).bulk<=b))
theorem zto {b:Nat}{x:D}(h:zrp b x=true):Good b x:=by
 unfold zrp at h
 rw [Bool.and_eq_true,Bool.and_eq_true] at h
 exact ⟨h.1,h.2.1,of_decide_eq_true h.2.2⟩
theorem znr {b:Nat}:∀{ds:List D},(∀d∈ds,Good b d)->PyData.showableAll (zb5 ds)=true/\PyData.leavesShortAll 40 (zb5 ds)=true/\PyData.bulkAll (zb5 ds)<=(b+1)*ds.length
 |[],_=>⟨rfl,rfl,Nat.zero_le _⟩
 | d :: r, h => by
   obtain ⟨a2,a3,a4⟩:=znr (ds:=r) fun x hx=>h x (List.mem_cons_of_mem _ hx)
   obtain ⟨b2,b3,b4⟩:=h d List.mem_cons_self
   refine ⟨?_,?_,?_⟩
   ·show PyData.showableAll (toPy d::zb5 r)=true
    rw [PyData.showableAll,b2,a2];rfl
   ·show PyData.leavesShortAll 40 (toPy d::zb5 r)=true
    rw [PyData.leavesShortAll,b3,a3];rfl
   ·show PyData.bulkAll (toPy d::zb5 r)<=_
    rw [PyData.bulkAll,List.length_cons,Nat.mul_succ];omega
theorem Good.lst {b:Nat}{ds:List D}(h:∀d∈ds,Good b d):Good ((b+1)*ds.length) (.lst ds):=by
 obtain ⟨a2,a3,a4⟩:=znr h
 refine ⟨?_,?_,?_⟩
 ·show PyData.showable (.list (zb5 ds))=true
  rw [PyData.showable];exact a2
 ·show PyData.leavesShort 40 (.list (zb5 ds))=true
  rw [PyData.leavesShort];exact a3
 ·show PyData.bulk (.list (zb5 ds))<=_
  rw [PyData.bulk];exact a4
theorem Good.tup {b:Nat}{ds:List D}(h:∀d∈ds,Good b d):Good ((b+1)*ds.length) (.tup ds):=by
 obtain ⟨a2,a3,a4⟩:=znr h
 refine ⟨?_,?_,?_⟩
 ·show PyData.showable (.tuple (zb5 ds))=true
  rw [PyData.showable];exact a2
 ·show PyData.leavesShort 40 (.tuple (zb5 ds))=true
  rw [PyData.leavesShort];exact a3
 ·show PyData.bulk (.tuple (zb5 ds))<=_
  rw [PyData.bulk];exact a4
theorem Good.mono {b b':Nat}{x:D}(h:Good b x)(hb:b<=b'):Good b' x:=⟨h.sh,h.short,tqh h.bulk hb⟩
def zgv (x:D):D:=.str (toPy x).shown
theorem zus {s:GA}{Z:Env}{M:Mem}{k L b:Nat}{x:D}(es:s Z M=.ok [x] M)(ht:Th k L x)(hk:k<=64)(hg:Good b x)(hb:b<=100000):zis s Z M=.ok (zgv x) M:=by
 have pu:zas 64 x=true:=(ht.mono hk (tqg _)).pure
 have vw:=zny M 64 64 x pu
 have hs:zmi M x=true:=by
  unfold zmi zg4
  rw [vw,pu,hg.sh,Bool.true_and,Bool.true_and]
  refine decide_eq_true ?_
  have h1:=PyData.shown_le_bulk 40 (by decide) (toPy x) hg.short
  have h2:=hg.bulk
  show _<=2^24
  omega
 unfold zis
 rw [es]
 show (if zmi M x=true then Res.ok (D.str (zg4 M x)) M else .bad)=_
 rw [if_pos hs]
 unfold zg4 zgv
 rw [vw]
theorem ne_txt {x:D}{M:Mem}:zb2 .ne (zgv x) (zgv x) M=some false:=by
 show (eqM M (.str _) (.str _)).map (!·)=_
 rw [zpy]
 simp
def rowV (m:zcc):D->D
 | .lst ds => match ds.findIdx? fun d => !dnB m d with
   |some i=>.exc 0 (some (i:Int))
   |none=>if 40<ds.length then .exc 4 none else .non
 |_=>.exc 0 (some 0)
theorem zs0 {m:zcc}:∀{ds:List D},(∀d∈ds,dnB m d=true)->∃r:List Nat,ds=r.map nD/\∀i∈r,i<m.deeds.length
 |[],_=>⟨[],rfl,fun _ h=>nomatch h⟩
 | d :: ds, h => by
   obtain ⟨r,rfl,hr⟩:=zs0 (ds:=ds) fun x hx=>h x (List.mem_cons_of_mem _ hx)
   have hd:=h d List.mem_cons_self
   cases d with
   | int i =>
     have hd:(decide ((0:Int)<=i)&&decide (i<=(m.deeds.length:Int)-1))=true:=hd
     rw [Bool.and_eq_true,decide_eq_true_eq,decide_eq_true_eq] at hd
     refine ⟨i.toNat::r,?_,fun j hj=>?_⟩
     ·show _=nD i.toNat::r.map nD
      rw [show nD i.toNat=D.int i by show D.int (i.toNat:Int)=_;rw [Int.toNat_of_nonneg hd.1]]
     ·rcases List.mem_cons.mp hj with rfl|hj
      ·omega
      ·exact hr j hj
   |_=>cases hd
inductive zd1 (m:zcc):D->D->Prop
 |ok (r:List Nat) (h:ziw m r):zd1 m (rowD r) .non
 |long (ds:List D) (h:∀d∈ds,dnB m d=true) (hl:40<ds.length):zd1 m (.lst ds) (.exc 4 none)
 |bad (ds:List D) (i:Nat) (x:D) (hx:ds[i]?=some x) (hb:dnB m x=false) (hg:∀j y,j<i->ds[j]?=some y->dnB m y=true):zd1 m (.lst ds) (.exc 0 (some (i:Int)))
 |not (x:D) (h:zca .list x=some false):zd1 m x (.exc 0 (some 0))
theorem z0a {m:zcc}{k L:Nat}{x:D}(hx:Th k L x):zd1 m x (rowV m x):=by
 cases x with
 | lst ds =>
   show zd1 m _ (match ds.findIdx? fun d=>!dnB m d with|some i=>D.exc 0 (some (i:Int))|none=>if 40<ds.length then .exc 4 none else .non)
   cases e:ds.findIdx? fun d=>!dnB m d with
   | some i =>
     obtain ⟨hi,h1,h2⟩:=List.findIdx?_eq_some_iff_getElem.mp e
     refine .bad ds i ds[i] (List.getElem?_eq_getElem hi) (by simpa using h1) fun j y hj hy=>?_
     obtain ⟨hj',rfl⟩:=List.getElem?_eq_some_iff.mp hy
     simpa using h2 j hj
   | none =>
     have h1:=List.findIdx?_eq_none_iff.mp e
     have h2:∀d∈ds,dnB m d=true:=fun d hd=>by simpa using h1 d hd
     show zd1 m _ (if 40<ds.length then D.exc 4 none else .non)
     by_cases c:40<ds.length
     ·rw [if_pos c];exact .long ds h2 c
     ·rw [if_neg c]
      obtain ⟨r,rfl,hr⟩:=zs0 h2
      exact .ok r ⟨by simpa using c,hr⟩
 |frz ds=>cases k<;>exact hx.elim
 |cell j=>cases k<;>exact hx.elim
 |fn j=>cases k<;>exact hx.elim
 |exc y p=>cases k<;>exact hx.elim
 |_=>exact .not _ rfl
section
variable {P:Nat->Option Df}(h:HasM0 P){M:Mem}{m:zcc}{k L:Nat}
include h
theorem z4h (n:Nat){x:D}(hm:zdf m)(hv:zd1 m x .non):zal P (n+9) 18 [m.d,x] M=.ok .non M:=by
 cases hv with
 |ok r hr=>exact sp_row h n hm hr
theorem ztb (n:Nat){x v:D}(hm:zdf m)(hx:Th (k+1) L x)(hL:L<=900000)(hv:zd1 m x v)(hn:v≠.non):zal P (n+9) 18 [m.d,x] M=.err v M:=by
 cases hv with
 |ok r hr=>exact absurd rfl hn
 |long ds hg hl=>exact z0b h n hm (z4d h (n+5) hx.2 hg) hl
 | bad ds i y hy hb hg =>
   have:=(List.getElem?_eq_some_iff.mp hy).1
   have:=hx.1
   exact zsl h n hm (z0t h (n+5) hx.2 hy hb hg (by omega))
 |not x hi=>exact zsl h n hm (z0s h (n+5) hi)
end
theorem top_at {m:zcc}{Z:Env}{M:Mem}{j:Nat}(e:Z[j]?.getD none=some m.d):zaq false .sub (zbh .len (zaa (za4 (zad j) (gI 2)) zaj)) (gI 1) Z M=.ok (.int ((m.deeds.length:Int)-1)) M:=by
 refine zav ?_
 simp only [ze1,zec,zbq,zbx,zj1,zbp,e_c]
 refine ⟨_,e,.tup (m.deeds.map zb0.d),rfl,zkr.mpr (zn0.mpr ⟨?_,rfl⟩)⟩
 rw [List.length_map]
theorem zlg {ds:List D}{Z:Env}{M:Mem}{j:Nat}(e:Z[j]?.getD none=some (.lst ds)):zbh .len (zaa (zad j) zaj) Z M=.ok (nD ds.length) M:=by
 unfold zbh
 rw [zaw (zbl e) rfl]
 rfl
section
variable {P:Nat->Option Df}(h:HasW P){M:Mem}{m:zcc}{k L:Nat}
include h
theorem sp_due (h90:P 90=some ⟨2,4,zdz⟩)(n:Nat){x v:D}(hm:zdf m)(hx:Th (k+1) L x)(hL:L<=900000)(hv:zd1 m x v):zal P (n+6) 90 [m.d,x] M=.ok (zf4 v) M:=by
 refine zav (zay h90 rfl ?_)
 show okE (zdz (zal P (n+5)) [some m.d,some x,none,none] M) _
 unfold zdz
 have em:=zqi h n (M:=M) (zkp hm) (by decide) (by decide)
 rw [zjx hm] at em
 refine zar (zem (b:=true) (zdq (zj4 rfl em))) ?_
 have body:∀{ds:List D}{y:D}{a:D},(Th k L y)->(zao 68 (zal P (n+5)) (zaa (zad 3) (zaa (gI 0) (zaa (zaq false .sub (zbh .len (zaa (za4 (zad 0) (gI 2)) zaj)) (gI 1)) zaj)))) [some m.d,some (.lst ds),some a,some y] M=.ok (.bl (dnB m y)) M:=fun {ds y a} hy=>
  (zcx (zaw (zbl rfl) (zaw rfl (zaw (top_at rfl) rfl)))).trans (zh6 h (n+3) hy _ _)
 cases hv with
 | not x hi =>
   refine zbw (zem (b:=false) (zdq ?_)) (v:=.lst [.str "row",.int 0]) rfl ⟨rfl,rfl⟩
   unfold zcb
   show (ofO M (zca .list x)).bind _=_
   rw [hi];rfl
 | ok r hr =>
   refine zar rfl ?_
   simp only [za5,zh8,zlr,zbp]
   refine ⟨_,rfl,rfl,?_⟩
   refine zgu (ds:=zdd 0 (r.map nD)) (fun i Z M'=>M'=M/\∃a b,Z=[some m.d,some (rowD r),a,b]) (fun _ _ _ e=>rfl) ⟨rfl,none,none,rfl⟩ ?_ ?_
   ·rintro i e Z M' he ⟨rfl,a,b,rfl⟩
    rw [zeb] at he
    obtain ⟨y,hy,rfl⟩:=Option.map_eq_some_iff.mp he
    obtain ⟨q,hq,rfl⟩:=List.mem_map.mp (List.mem_of_getElem? hy)
    refine ⟨_,rfl,zar (zem (b:=true) (zdq ?_)) ⟨_,rfl,rfl,_,_,rfl⟩⟩
    have:=body (ds:=r.map nD) (y:=nD q) (a:=.int ((0+i:Nat):Int)) (by cases k<;>trivial)
    rw [z0u (hr.2 q hq)] at this
    exact this
   ·rintro Z M' ⟨rfl,a,b,rfl⟩
    refine zdy (v:=.non) ?_ ⟨rfl,rfl⟩
    unfold ze0
    have e:(zau (za9 .gt (zbh .len (zaa (zad 1) zaj)) (gI 40)):GT) [some m.d,some (rowD r),a,b] M'=.ok false M':=by
     refine za2 ?_
     simp only [zio,zh2,e_c]
     rw [zlg (ds:=r.map nD) rfl,zjw]
     refine ⟨_,rfl,_,rfl,decide_eq_false ?_,rfl⟩
     have:=hr.1
     simp;omega
    rw [e]
    rfl
 | long ds hg hl =>
   refine zar rfl ?_
   simp only [za5,zh8,zlr,zbp]
   refine ⟨_,rfl,rfl,?_⟩
   refine zgu (ds:=zdd 0 ds) (fun i Z M'=>M'=M/\∃a b,Z=[some m.d,some (.lst ds),a,b]) (fun _ _ _ e=>rfl) ⟨rfl,none,none,rfl⟩ ?_ ?_
   ·rintro i e Z M' he ⟨rfl,a,b,rfl⟩
    rw [zeb] at he
    obtain ⟨y,hy,rfl⟩:=Option.map_eq_some_iff.mp he
    have hm':=List.mem_of_getElem? hy
    refine ⟨_,rfl,zar (zem (b:=true) (zdq ?_)) ⟨_,rfl,rfl,_,_,rfl⟩⟩
    have:=body (ds:=ds) (y:=y) (a:=.int ((0+i:Nat):Int)) (hx.2 y hm')
    rw [hg y hm'] at this
    exact this
   ·rintro Z M' ⟨rfl,a,b,rfl⟩
    refine zdy (v:=.lst [.str "long"]) ?_ ⟨rfl,rfl⟩
    unfold ze0
    have e:(zau (za9 .gt (zbh .len (zaa (zad 1) zaj)) (gI 40)):GT) [some m.d,some (.lst ds),a,b] M'=.ok true M':=by
     refine za2 ?_
     simp only [zio,zh2,e_c]
     rw [zlg (ds:=ds) rfl,zjw]
     exact ⟨_,rfl,_,rfl,decide_eq_true (by omega),rfl⟩
    rw [e]
    rfl
 | bad ds i y hy hb hg =>
   refine zar rfl ?_
   simp only [za5,zh8,zlr,zbp]
   refine ⟨_,rfl,rfl,?_⟩
   refine z4r (ds:=zdd 0 ds) (fun j Z M'=>M'=M/\j<=i/\∃a b,Z=[some m.d,some (.lst ds),a,b]) (fun d M'=>d=.lst [.str "row",.int (i:Int)]/\M'=M) (fun _ _ _ e=>rfl) (fun _ _ _=>rfl) ⟨rfl,Nat.zero_le _,none,none,rfl⟩ ?_ ?_ ?_
   ·rintro j e Z M' he ⟨rfl,hj,a,b,rfl⟩
    rw [zeb] at he
    obtain ⟨z,hz,rfl⟩:=Option.map_eq_some_iff.mp he
    have ez:=body (ds:=ds) (y:=z) (a:=.int ((0+j:Nat):Int)) (hx.2 z (List.mem_of_getElem? hz))
    refine ⟨_,rfl,?_⟩
    by_cases c:j=i
    ·subst c
     rw [hy] at hz;cases hz
     rw [hb] at ez
     refine zbw (zem (b:=false) (zdq ez)) (lst2 (zbl rfl)) (.inr ⟨_,rfl,?_,rfl⟩)
     rw [Nat.zero_add]
    ·rw [hg j z (by omega) hz] at ez
     exact zar (zem (b:=true) (zdq ez)) (.inl ⟨_,rfl,rfl,by omega,_,_,rfl⟩)
   ·rintro Z M' ⟨rfl,hj,_⟩
    have hlt:=(List.getElem?_eq_some_iff.mp hy).1
    have:(zdd 0 ds).length=ds.length:=zhc ds 0
    omega
   ·rintro d M' ⟨rfl,rfl⟩
    exact ⟨rfl,rfl⟩
end
end LD
namespace LD
open PySem
theorem z1v {i:Int}{x:D}(h:x∈zkc i):∃c p,x=.exc c p:=by
 simp only [zkc,List.mem_cons,List.not_mem_nil,or_false] at h
 rcases h with rfl|rfl|rfl|rfl|rfl|rfl|rfl|rfl|rfl|rfl|rfl|rfl|rfl|rfl<;>exact ⟨_,_,rfl⟩
theorem ite2 {t:GT}{A B:GS}{Z:Env}{M:Mem}{b:Bool}{k:Fl->Mem->Prop}(ht:t Z M=.ok b M)(h:okE ((if b=true then A else B) Z M) k):okE (zbc t A B Z M) k:=by
 simp only [zjd]
 rw [ht]
 cases b<;>exact h
section
variable {P:Nat->Option Df}{M:Mem}{d r:D}
theorem ztx (h19:P 19=some ⟨2,2,zhg⟩)(n:Nat){x:D}(e:zal P n 18 [d,r] M=.err x M):zal P (n+1) 19 [d,r] M=.err x M:=by
 refine zfo (zgr h19 rfl ?_)
 show okE (zhg (zal P n) [some d,some r] M) _
 unfold zhg
 simp only [za5,zkl,ze9,zbq,zbx,zbp]
 refine ⟨_,rfl,_,rfl,?_⟩
 rw [e]
 exact ⟨rfl,rfl⟩
def askF (a:Nat):Nat:=if a=0 then 18 else 19
variable (h91:P 91=some ⟨3,6,zda⟩){a:Nat}(ha:a=0\/a=1)
include h91 ha
theorem zxf (n:Nat){v:D}(e:zal P n (askF a) [d,r] M=.ok v M):zal P (n+1) 91 [nD a,d,r] M=.ok (.lst [v]) M:=by
 refine zav (zay h91 rfl ?_)
 show okE (zda (zal P n) [some (nD a),some d,some r,none,none,none] M) _
 unfold zda
 refine zcg (zie rfl) (zcg (zie rfl) ?_)
 show okE (zaf _ _ [some (nD a),some d,some r,some .non,some .non,none] M) _
 simp only [za5,zxr]
 rcases ha with rfl|rfl
 ·refine ite2 (b:=true) rfl ?_
  show okE (zaf _ _ [some (nD 0),some d,some r,some .non,some .non,none] M) _
  simp only [za5,zmj,ze9,zbq,zbx,zbp]
  refine ⟨_,rfl,_,rfl,?_⟩
  rw [show zal P n 18 [d,r] M=.ok v M from e]
  exact ⟨rfl,rfl⟩
 ·refine ite2 (b:=false) rfl ?_
  show okE (zaf _ _ [some (nD 1),some d,some r,some .non,some .non,none] M) _
  simp only [za5,zmj,ze9,zbq,zbx,zbp]
  refine ⟨_,rfl,_,rfl,?_⟩
  rw [show zal P n 19 [d,r] M=.ok v M from e]
  exact ⟨rfl,rfl⟩
theorem zr6 (h75:P 75=some ⟨1,3,zd0⟩)(n:Nat){x:D}{i:Int}(hx:x∈zkc i)(e:zal P (n+1) (askF a) [d,r] M=.err x M):zal P (n+2) 91 [nD a,d,r] M=.ok (zf4 x) M:=by
 have er:=zvg h75 n (M:=M) hx
 obtain ⟨c,p,rfl⟩:=z1v hx
 refine zav (zay h91 rfl ?_)
 show okE (zda (zal P (n+1)) [some (nD a),some d,some r,none,none,none] M) _
 unfold zda
 refine zcg (zie rfl) (zcg (zie rfl) ?_)
 show okE (zaf _ _ [some (nD a),some d,some r,some .non,some .non,none] M) _
 have fin:okE (zaf (zbb (ze0 (zau (za9 .isN (zad 3) gN)) (zbd false (zaa (zad 4) zaj)) (zao 75 (zal P (n+1)) (zaa (zad 3) zaj)))) zak [some (nD a),some d,some r,some (.exc c p),some .non,none] M) (zhb fun y M'=>y=zf4 (.exc c p)/\M'=M):=by
  refine zdy ?_ ⟨rfl,rfl⟩
  show zao 75 (zal P (n+1)) (zaa (zad 3) zaj) [some (nD a),some d,some r,some (.exc c p),some .non,none] M=_
  exact zj4 rfl er
 simp only [za5,zxr]
 rcases ha with rfl|rfl
 ·refine ite2 (b:=true) rfl ?_
  show okE (zaf _ _ [some (nD 0),some d,some r,some .non,some .non,none] M) _
  simp only [za5,zmj,ze9,zbq,zbx,zbp]
  refine ⟨_,rfl,_,rfl,?_⟩
  rw [show zal P (n+1) 18 [d,r] M=.err (.exc c p) M from e]
  exact fin
 ·refine ite2 (b:=false) rfl ?_
  show okE (zaf _ _ [some (nD 1),some d,some r,some .non,some .non,none] M) _
  simp only [za5,zmj,ze9,zbq,zbx,zbp]
  refine ⟨_,rfl,_,rfl,?_⟩
  rw [show zal P (n+1) 19 [d,r] M=.err (.exc c p) M from e]
  exact fin
end
structure Has03 (P:Nat->Option Df):Prop where
 m:HasM0 P
 p:HasP P
 t:HasT P
 w:HasW P
 s:zrs P
 h19:P 19=some ⟨2,2,zhg⟩
 h47:P 47=some ⟨2,2,zdh⟩
 h35:P 35=some ⟨3,6,zhi⟩
 h75:P 75=some ⟨1,3,zd0⟩
 h89:P 89=some ⟨2,2,zjs⟩
 h90:P 90=some ⟨2,4,zdz⟩
 h91:P 91=some ⟨3,6,zda⟩
 h92:P 92=some ⟨2,8,zee⟩
 h93:P 93=some ⟨1,9,zku⟩
def items:List D:=(List.range 20).map (fun (k:Nat)=>nD k)++[.int (-1),.int (-2),.int (10^20),.bl true,.bl false,.non,.str "0",.lst [.int 0],.tup [.int 0],.lst [],.str "",.str "turn",.str "join",.str "move",.str "put",.str "Turn",.tup []]
theorem zlh {x:D}(h:x∈items):Th 2 200 x/\Good 5 x:=by
 have e:items.all (fun x=>thB 2 200 x&&zrp 5 x)=true:=by decide +kernel
 have q:=List.all_eq_true.mp e x h
 rw [Bool.and_eq_true] at q
 exact ⟨zls q.1,zto q.2⟩
theorem zjj {i:Nat}(h:i<20):nD i∈items:=List.mem_append_left _ (List.mem_map.mpr ⟨i,List.mem_range.mpr h,rfl⟩)
structure Itm (n:Nat) (xs:List D):Prop where
 len:xs.length<=n
 all:∀x∈xs,x∈items
structure Thing (x:D):Prop where
 th:Th 3 200 x
 good:Good 10000 x
theorem Itm.lst {n:Nat}{xs:List D}(h:Itm n xs)(hn:n<=200):Thing (.lst xs):=by
 have:=h.len
 exact ⟨.lst_of (by omega) fun d hd=>(zlh (h.all d hd)).1,(Good.lst fun d hd=>(zlh (h.all d hd)).2).mono (by omega)⟩
theorem Itm.tup {n:Nat}{xs:List D}(h:Itm n xs)(hn:n<=200):Thing (.tup xs):=by
 have:=h.len
 exact ⟨.tup_of (by omega) fun d hd=>(zlh (h.all d hd)).1,(Good.tup fun d hd=>(zlh (h.all d hd)).2).mono (by omega)⟩
theorem Itm.app {n n':Nat}{xs ys:List D}(h:Itm n xs)(h':Itm n' ys):Itm (n+n') (xs++ys):=by
 have:=h.len
 have:=h'.len
 refine ⟨by rw [List.length_append];omega,fun x hx=>?_⟩
 rcases List.mem_append.mp hx with z|z
 ·exact h.all x z
 ·exact h'.all x z
theorem Itm.take {n:Nat}{xs:List D}(h:Itm n xs)(k:Nat):Itm n (xs.take k):=⟨by have:=h.len;rw [List.length_take];omega,fun x hx=>h.all x (List.mem_of_mem_take hx)⟩
theorem Itm.drop {n:Nat}{xs:List D}(h:Itm n xs)(k:Nat):Itm n (xs.drop k):=⟨by have:=h.len;rw [List.length_drop];omega,fun x hx=>h.all x (List.mem_of_mem_drop hx)⟩
theorem Itm.one {x:D}(h:x∈items):Itm 1 [x]:=⟨tqg _,fun y hy=>by rw [List.mem_singleton.mp hy];exact h⟩
theorem Itm.put {n k:Nat}{xs:List D}{x:D}(h:Itm n xs)(hx:x∈items):Itm (n+1) (xs.take k++[x]++xs.drop k):=by
 have:=h.len
 exact ⟨by simp;omega,(((h.take k).app (.one hx)).app (h.drop k)).all⟩
theorem Itm.mono {n n':Nat}{xs:List D}(h:Itm n xs)(hn:n<=n'):Itm n' xs:=⟨tqh h.len hn,h.all⟩
theorem Itm.zeros (n:Nat):Itm n (zeros n):=⟨by simp [LD.zeros],fun x hx=>by rw [(List.mem_replicate.mp hx).2];exact zjj (i:=0) (by decide)⟩
theorem z3m {m:zcc}{r:List Nat}{n:Nat}(hm:zdf m)(hr:∀i∈r,i<m.deeds.length)(hl:r.length<=n):Itm n (r.map nD):=by
 have:=hm.d6
 refine ⟨by rw [List.length_map];exact hl,fun x hx=>?_⟩
 obtain ⟨i,hi,rfl⟩:=List.mem_map.mp hx
 exact zjj (by have:=hr i hi;omega)
def zil (m:zcc):List D:=[.int (-1),nD m.deeds.length,.int ((m.deeds.length:Int)+9),.int (10^20),.bl true,.bl false,.non,.str "0",.lst [.int 0],.tup [.int 0],.lst [],.int 7]
theorem zqm {m:zcc}{x:D}(hm:zdf m)(h:x∈zil m):x∈items:=by
 have d6:=hm.d6
 have far:∀{y:D},y∈[D.int (-1),.int (-2),.int (10^20),.bl true,.bl false,.non,.str "0",.lst [.int 0],.tup [.int 0],.lst [],.str "",.str "turn",.str "join",.str "move",.str "put",.str "Turn",.tup []]->y∈items:=fun hy=>List.mem_append_right _ hy
 simp only [zil,List.mem_cons,List.not_mem_nil,or_false] at h
 rcases h with rfl|rfl|rfl|rfl|rfl|rfl|rfl|rfl|rfl|rfl|rfl|rfl
 ·exact far (by simp)
 ·exact zjj (by omega)
 ·rw [show ((m.deeds.length:Int)+9)=((m.deeds.length+9:Nat):Int) by omega];exact zjj (by omega)
 ·exact far (by simp)
 ·exact far (by simp)
 ·exact far (by simp)
 ·exact far (by simp)
 ·exact far (by simp)
 ·exact far (by simp)
 ·exact far (by simp)
 ·exact far (by simp)
 ·exact zjj (i:=7) (by decide)
section
variable {Z:Env}{M:Mem}{a b:GE}
theorem ztv {m:zcc}{j:Nat}(e:Z[j]?.getD none=some m.d):zbh .len (zaa (za4 (zad j) (gI 2)) zaj) Z M=.ok (nD m.deeds.length) M:=by
 refine zav ?_
 simp only [zec,zbq,zbx,zj1,zbp,e_c]
 refine ⟨_,e,.tup (m.deeds.map zb0.d),rfl,zkr.mpr ⟨?_,rfl⟩⟩
 rw [List.length_map]
theorem zux {v c:Nat}(e:a Z M=.ok (nD v) M):zaq false .add a (gC (.int (c:Int))) Z M=.ok (nD (v+c)) M:=by
 unfold zaq
 rw [e]
 show Res.ok (D.int ((v:Int)+(c:Int))) M=_
 rw [show ((v:Int)+(c:Int))=((v+c:Nat):Int) by omega]
theorem z4c {m:zcc}{x0 x2 x3 x4 x5 x6 x7:Option D}:zbd false (zaa (zfn (gI 1)) (zaa (zbh .len (zaa (za4 (zad 1) (gI 2)) zaj)) (zaa (zaq false .add (zbh .len (zaa (za4 (zad 1) (gI 2)) zaj)) (gI 9)) (zaa (zaq false .pow (gI 10) (gI 20)) (zaa gTt (zaa gFf (zaa gN (zaa (gS "0") (zaa (zbd false (zaa (gI 0) zaj)) (zaa (zc4 (zaa (gI 0) zaj)) (zaa (zbd false zaj) (zaa (gI 7) zaj)))))))))))) [x0,some m.d,x2,x3,x4,x5,x6,x7] M=.ok (.lst (zil m)) M:=by
 have e9:zaq false .add (zbh .len (zaa (za4 (zad 1) (gI 2)) zaj)) (gI 9) [x0,some m.d,x2,x3,x4,x5,x6,x7] M=.ok (.int ((m.deeds.length:Int)+9)) M:=zux (c:=9) (ztv rfl)
 exact zkq (zaw rfl (zaw (ztv rfl) (zaw e9 (zaw rfl (zaw rfl (zaw rfl (zaw rfl (zaw rfl (zaw rfl (zaw rfl (zaw rfl (zaw rfl rfl)))))))))))) (tqq rfl)
theorem ztw {xs:List D}{v:Nat}(h1:a Z M=.ok (.lst xs) M)(hz:xs.length<=1000):zct false false true a gN (gC (.int (v:Int))) Z M=.ok (.lst (xs.take v)) M:=by
 unfold zct
 rw [h1]
 refine zav ?_
 exact zo8.mpr ⟨zax (by simp;omega),rfl,rfl⟩
theorem put_at {j l:Nat}{xs:List D}{x:D}{v:Nat}(h1:Z[j]?.getD none=some (.lst xs))(h2:Z[l]?.getD none=some (nD v))(h3:a Z M=.ok x M)(hz:xs.length<=50):zaq false .add (zaq false .add (zct false false true (zad j) gN (zad l)) (zbd false (zaa a zaj))) (zct false true false (zad j) (zad l) gN) Z M=.ok (.lst (xs.take v++[x]++xs.drop v)) M:=
 zza (zza (to_at h1 h2 (by omega)) (zkq (zaw h3 rfl) (tqq rfl)) (by simp;omega)) (z4q h1 h2 (by omega)) (by simp;omega)
theorem zu3 {j:Nat}{xs:List D}(h:Z[j]?.getD none=some (.lst xs)):zaq false .add (zbh .len (zaa (zad j) zaj)) (gI 1) Z M=.ok (nD (xs.length+1)) M:=zux (c:=1) (zlg h)
theorem zm2 {xs ys:List D}(ea:a Z M=.ok (.lst xs) M)(eb:b Z M=.ok (.lst ys) M)(hl:(xs++ys).length<=1000):zaq false .add a b Z M=.ok (.lst (xs++ys)) M:=by
 unfold zaq
 rw [ea]
 show (b Z M).bind _=_
 rw [eb]
 show (if (xs++ys).length<=sz then (if false=true then _ else Res.ok (D.lst (xs++ys)) M) else .bad)=_
 rw [if_pos (zax (by omega))]
 rfl
end
section
variable {P:Nat->Option Df}(h:Has03 P){M:Mem}{m:zcc}
include h
theorem zvh (n:Nat){p B:Nat}(hm:zdf m)(hp:za3 M p B)(hB:B<=600000):okE (zal P (n+4) 92 [.cell p,m.d] M) fun d M'=>∃xs,d=.lst xs/\xs.length=6/\(∀x∈xs,Thing x)/\za3 M' p (B+60):=by
 refine zay h.h92 rfl ?_
 show okE (zee (zal P (n+3)) [some (.cell p),some m.d,none,none,none,none,none,none] M) _
 unfold zee
 refine zcg (zie z4c) ?_
 refine zfk h.p (n+1) (many:=12) rfl rfl hp (by omega) (by omega) (by omega) fun pick M1 hpk q1 _=>?_
 refine zfk h.p (n+1) (many:=3) rfl rfl q1 (by omega) (by omega) (by omega) fun way M2 hwy q2 _=>?_
 refine zd2 (k:=fun d M'=>∃r:List Nat,d=.lst (r.map nD)/\Itm 40 (r.map nD)/\za3 M' p (B+52)) ?_ ?_
 ·rw [zcx (zaw (zbl rfl) (zaw (zbl rfl) (zaw rfl rfl)))]
  exact zbo (z3c h.p h.h35 n hm q2 (by omega) (mo:=40) (by omega)) fun d M' ⟨r,e,hr,hl,q,_⟩=>⟨r,e,z3m hm hr.2 hl,q⟩
 rintro _ M3 ⟨r,rfl,hi,q3⟩
 have hl:=hi.len
 refine zfk h.p (n+1) (many:=(r.map nD).length+1) rfl (zu3 rfl) q3 (by omega) (by omega) (by omega) fun at_ M4 hat q4 _=>?_
 have hpl:pick<(zil m).length:=hpk
 have h7:Itm 41 ((r.map nD).take at_++[(zil m)[pick]]++(r.map nD).drop at_):=hi.put (zqm hm (List.getElem_mem hpl))
 refine zcg (zie (put_at (x:=(zil m)[pick]) rfl rfl ?_ (by omega))) ?_
 ·unfold za4
  show ofO M4 (zf6 (.lst (zil m)) (nD pick) M4)=_
  rw [zmn hpl];rfl
 generalize (r.map nD).take at_++[(zil m)[pick]]++(r.map nD).drop at_=fs at h7
 have fin:∀(fs:List D) (M':Mem) (x3 x4 x6:Option D),Itm 42 fs->za3 M' p (B+60)->okE (zaf (zbb (zbd false (zaa (zad 5) (zaa (zad 7) (zaa (zct false false true (zaq false .add (zaq false .add (zad 7) (zad 5)) (zad 5)) gN (gI 45)) (zaa (zbh .tuple (zaa (zad 5) zaj)) (zaa (zct false false true (zaq false .add (zad 5) (zaq false .mul (zbd false (zaa (gI 0) zaj)) (gI 40))) gN (gI 40)) (zaa (zct false false true (zaq false .add (zad 5) (zaq false .mul (zbd false (zaa (gI 0) zaj)) (gI 41))) gN (gI 41)) zaj)))))))) zak [some (.cell p),some m.d,some (.lst (zil m)),x3,x4,some (.lst (r.map nD)),x6,some (.lst fs)] M') (zhb fun d M'=>∃xs,d=.lst xs/\xs.length=6/\(∀x∈xs,Thing x)/\za3 M' p (B+60)):=by
  intro fs M' x3 x4 x6 hf q
  have lf:=hf.len
  have i3:Itm 122 (fs++r.map nD++r.map nD):=((hf.app hi).app hi)
  have i4:Itm 80 (r.map nD++zeros 40):=hi.app (.zeros 40)
  have i5:Itm 81 (r.map nD++zeros 41):=hi.app (.zeros 41)
  have l3:=i3.len
  have l4:=i4.len
  have l5:=i5.len
  refine zdy (v:=.lst [.lst (r.map nD),.lst fs,.lst ((fs++r.map nD++r.map nD).take 45),.tup (r.map nD),.lst ((r.map nD++zeros 40).take 40),.lst ((r.map nD++zeros 41).take 41)]) (zkq (zaw (zbl rfl) (zaw (zbl rfl) (zaw (ztw (v:=45) (zm2 (zm2 (zbl rfl) (zbl rfl) (by rw [List.length_append];omega)) (zbl rfl) (by omega)) (by omega)) (zaw rfl (zaw (ztw (v:=40) (zm2 (ys:=zeros 40) (zbl rfl) rfl (by omega)) (by omega)) (zaw (ztw (v:=41) (zm2 (ys:=zeros 41) (zbl rfl) rfl (by omega)) (by omega)) rfl)))))) (tqq rfl)) ⟨_,rfl,rfl,fun x hx=>?_,q⟩
  simp only [List.mem_cons,List.not_mem_nil,or_false] at hx
  rcases hx with rfl|rfl|rfl|rfl|rfl|rfl
  ·exact hi.lst (by decide)
  ·exact hf.lst (by decide)
  ·exact (i3.take 45).lst (by decide)
  ·exact hi.tup (by decide)
  ·exact (i4.take 40).lst (by decide)
  ·exact (i5.take 41).lst (by decide)
 refine zd3 (zll (c:=1) rfl) (fun _=>?_) fun _=>fin fs M4 _ _ _ (h7.mono (by decide)) (q4.mono (by omega))
 have l7:=h7.len
 refine zfk h.p (n+1) (many:=fs.length+1) rfl (zu3 rfl) q4 (by omega) (by omega) (by omega) fun at2 M5 hat2 q5 _=>?_
 refine zd2 (k:=fun d M'=>∃gs,d=.lst gs/\Itm 42 gs/\za3 M' p (B+60)) ?_ ?_
 ·obtain ⟨x,M6,e6,hx,q6,k6⟩:=zok.mp (z1s h.p.toHasP0 (n+1) (a:=zad 2) (j:=0) (g:=gC (.int 12)) (many:=12) (xs:=zil m) (Z:=[some (.cell p),some m.d,some (.lst (zil m)),some (nD pick),some (nD way),some (.lst (r.map nD)),some (nD at2),some (.lst fs)]) (M:=M5) rfl rfl q5 (by omega) (by omega) (by omega) rfl rfl)
  simp only [ze1,zmt,zmu,zbq,zbx,e_c]
  refine ⟨rfl,rfl,zo8.mpr ⟨zax (by simp;omega),?_⟩⟩
  show okE (za4 (zad 2) (zao 31 (zal P (n+3)) (zaa (zad 0) (zaa (gI 12) zaj))) [some (.cell p),some m.d,some (.lst (zil m)),some (nD pick),some (nD way),some (.lst (r.map nD)),some (nD at2),some (.lst fs)] M5) _
  rw [e6,zjw]
  refine zcn.mpr ⟨zax (by simp),?_⟩
  refine zo1.mpr (zcn.mpr ⟨zax (by simp;omega),?_⟩)
  show zci true (nD at2)=true/\zci false D.non=true/\okE (zew false (.lst fs) (nD at2) .non M6) _
  refine ⟨rfl,rfl,zse.mpr ⟨zax (by simp;omega),?_⟩⟩
  exact zo1.mpr (zcn.mpr ⟨zax (by simp;omega),_,rfl,h7.put (zqm hm hx),q6.mono (by omega)⟩)
 rintro _ M7 ⟨gs,rfl,hg,q7⟩
 exact fin gs M7 _ _ _ hg q7
omit h in
theorem zy6 {P:Nat->Option Df}{f g:Nat}{d:Df}(e1:P f=some d)(e2:P g=some d)(n:Nat)(ds:List D)(M:Mem):zal P (n+1) f ds M=zal P (n+1) g ds M:=by
 show (match P f with|none=>Res.bad|some d=>zfl (zal P n) d ds M)=(match P g with|none=>Res.bad|some d=>zfl (zal P n) d ds M)
 rw [e1,e2]
theorem zzx (n:Nat){r:List Nat}(hr:ziw m r):zal P (n+1) 89 [m.d,rowD r] M=.ok (nD (zoy m r)) M:=
 (zy6 (d:=⟨2,2,zdh⟩) h.h89 h.h47 n _ M).trans (zlw h.m h.h47 n .l (tqh hr.1 (by decide)) hr.2)
theorem zz7 (n:Nat):zal P (n+1) 40 [.non,.non] M=.ok (.bl true) M:=by
 refine zav (zay h.s.same rfl ?_)
 exact zc2 rfl
theorem znf (n:Nat){x:D}(e:zal P n 40 [x,x] M=.ok (.bl true) M):zal P (n+1) 40 [.lst [x],.lst [x]] M=.ok (.bl true) M:=
 zn1 h.s n (zax (n:=1) (by decide)) fun d hd=>by rw [List.mem_singleton.mp hd];exact e
theorem zsi (n:Nat){x v:D}(hv:zd1 m x v)(hn:v≠.non):zal P (n+2) 40 [zf4 v,zf4 v] M=.ok (.bl true) M:=by
 have row:∀i:Int,zal P (n+2) 40 [.lst [.str "row",.int i],.lst [.str "row",.int i]] M=.ok (.bl true) M:=fun i=>by
  refine zn1 h.s (n+1) (zax (n:=2) (by decide)) fun d hd=>?_
  rcases List.mem_cons.mp hd with rfl|hd
  ·exact zqg h.s n (by decide +kernel)
  ·rw [List.mem_singleton.mp hd];exact zxm h.s n i
 cases hv with
 |ok r hr=>exact absurd rfl hn
 |long ds hg hl=>exact znf h (n+1) (zqg h.s n (by decide +kernel))
 |bad ds i y hy hb hg=>exact row i
 |not x hi=>exact row 0
omit h in
theorem zz6 {x v:D}(hv:zd1 m x v)(hn:v≠.non):∃i,v∈zkc i:=by
 cases hv with
 |ok r hr=>exact absurd rfl hn
 |long ds hg hl=>exact ⟨0,by simp [zkc]⟩
 |bad ds i y hy hb hg=>exact ⟨i,by simp [zkc]⟩
 |not x hi=>exact ⟨0,by simp [zkc]⟩
omit h in
theorem z3o {x v:D}(hv:zd1 m x v)(hn:v≠.non):zli (zf4 v)=false:=by
 cases hv with
 |ok r hr=>exact absurd rfl hn
 |long ds hg hl=>rfl
 |bad ds i y hy hb hg=>rfl
 |not x hi=>rfl
def zxd (c:Call):GS:=(zaf (za6 (.one 6) (zis (zaa (zad 5) zaj))) (zaf (za6 (.one 7) (zao 90 c (zaa (zad 3) (zaa (zad 5) zaj)))) (zaf (zbc (zb7 (zau (zao 40 c (zaa (zao 91 c (zaa (gI 0) (zaa (zad 3) (zaa (zad 5) zaj)))) (zaa (ze0 (zau (za9 .isN (zad 7) gN)) (zbd false (zaa gN zaj)) (zad 7)) zaj))))) rF zak) (zaf (zbc (zb7 (zau (zao 40 c (zaa (zao 91 c (zaa (gI 1) (zaa (zad 3) (zaa (zad 5) zaj)))) (zaa (ze0 (zau (za9 .isN (zad 7) gN)) (zbd false (zaa (zao 89 c (zaa (zad 3) (zaa (zad 5) zaj))) zaj)) (zad 7)) zaj))))) rF zak) (zaf (zbc (zau (za9 .ne (zis (zaa (zad 5) zaj)) (zad 6))) rF zak) zak)))))
theorem zzs {x:D}{x0 x1 x2 x4 x6 x7 x8:Option D}(hm:zdf m)(hx:Thing x):∃ρ',okE (zxd (zal P 39) [x0,x1,x2,some m.d,x4,some x,x6,x7,x8] M) (fun fl M'=>fl=.next ρ'/\M'=M)/\∃y6 y7,ρ'=[x0,x1,x2,some m.d,x4,some x,y6,y7,x8]:=by
 have hv:=z0a (m:=m) hx.th
 generalize rowV m x=v at hv
 have er:=fun M=>zus (s:=zaa (zad 5) zaj) (M:=M) (Z:=[x0,x1,x2,some m.d,x4,some x,x6,x7,x8]) (zaw (zbl rfl) rfl) hx.th (by decide) hx.good (by decide)
 have ed:=sp_due h.w h.h90 33 (M:=M) hm hx.th (by decide) hv
 have er2:zis (zaa (zad 5) zaj) [x0,x1,x2,some m.d,x4,some x,some (zgv x),some (zf4 v),x8] M=.ok (zgv x) M:=zus (zaw (zbl rfl) rfl) hx.th (by decide) hx.good (by decide)
 refine ⟨[x0,x1,x2,some m.d,x4,some x,some (zgv x),some (zf4 v),x8],?_,_,_,rfl⟩
 unfold zxd
 refine zcg (zie (er M)) (zcg (zie (zhd rfl rfl ed)) ?_)
 have isN:(zau (za9 .isN (zad 7) gN):GT) [x0,x1,x2,some m.d,x4,some x,some (zgv x),some (zf4 v),x8] M=.ok (zli (zf4 v)) M:=rfl
 have fin:okE (zaf (zbc (zau (za9 .ne (zis (zaa (zad 5) zaj)) (zad 6))) rF zak) zak [x0,x1,x2,some m.d,x4,some x,some (zgv x),some (zf4 v),x8] M) fun fl M'=>fl=.next [x0,x1,x2,some m.d,x4,some x,some (zgv x),some (zf4 v),x8]/\M'=M:=by
  refine zar (zdq ?_) ⟨rfl,rfl⟩
  unfold za9
  rw [er2]
  show (ofO M (zb2 .ne (zgv x) (zgv x) M)).bind (fun b M=>Res.ok (D.bl b) M)=_
  rw [ne_txt];rfl
 show okE (zaf _ _ [x0,x1,x2,some m.d,x4,some x,some (zgv x),some (zf4 v),x8] M) _
 by_cases hn:v=.non
 ·subst hn
  have e18:=z4h h.m 29 (M:=M) hm hv
  have t0:=zxf h.h91 (a:=0) (.inl rfl) 38 e18
  cases hv with
  | ok r hr =>
    have t1:=zxf h.h91 (a:=1) (.inr rfl) 38 (z3g h.m h.h19 h.h47 28 (M:=M) hm hr)
    refine zar (zem (b:=true) (zdq ?_)) (zar (zem (b:=true) (zdq ?_)) fin)
    ·exact (zcx (zaw ((zcx (zaw rfl (zaw (zbl rfl) (zaw (zbl rfl) rfl)))).trans t0) (zaw (zhv (x:=.lst [.non]) isN (fun _=>rfl) (fun z=>by cases z)) rfl))).trans (znf h 38 (zz7 h 37))
    ·exact (zcx (zaw ((zcx (zaw rfl (zaw (zbl rfl) (zaw (zbl rfl) rfl)))).trans t1) (zaw (zhv (x:=.lst [nD (zoy m r)]) isN (fun _=>zkq (zaw (zhd rfl rfl (zzx h 38 hr)) rfl) (tqq rfl)) (fun z=>by cases z)) rfl))).trans (znf h 38 (zxl h.s 37 _))
 ·have e18:=ztb h.m 28 (M:=M) hm hx.th (by decide) hv hn
  obtain ⟨i,hi⟩:=zz6 hv hn
  have t0:=zr6 h.h91 (a:=0) (.inl rfl) h.h75 37 hi (ztb h.m 29 (M:=M) hm hx.th (by decide) hv hn)
  have t1:=zr6 h.h91 (a:=1) (.inr rfl) h.h75 37 hi (ztx h.h19 37 e18)
  have nn:=z3o hv hn
  have ev:∀{a:GE},ze0 (zau (za9 .isN (zad 7) gN)) a (zad 7) [x0,x1,x2,some m.d,x4,some x,some (zgv x),some (zf4 v),x8] M=.ok (zf4 v) M:=fun {a}=>zhv isN (fun z=>by rw [nn] at z;cases z) (fun _=>zbl rfl)
  refine zar (zem (b:=true) (zdq ?_)) (zar (zem (b:=true) (zdq ?_)) fin)
  ·exact (zcx (zaw ((zcx (zaw rfl (zaw (zbl rfl) (zaw (zbl rfl) rfl)))).trans t0) (zaw ev rfl))).trans (zsi h 37 hv hn)
  ·exact (zcx (zaw ((zcx (zaw rfl (zaw (zbl rfl) (zaw (zbl rfl) rfl)))).trans t1) (zaw ev rfl))).trans (zsi h 37 hv hn)
def six:List D:=[.non,.int 7,.str "0,1",.tup [],.lst [.lst []],.str ""]
omit h in
theorem six_ok {x:D}(hx:x∈six):Thing x:=by
 have e:six.all (fun x=>thB 3 200 x&&zrp 10000 x)=true:=by decide +kernel
 have q:=List.all_eq_true.mp e x hx
 rw [Bool.and_eq_true] at q
 exact ⟨zls q.1,zto q.2⟩
omit h in
theorem z4i:zb2 .ne (.lst [.str "machine"]) (.lst [.str "machine"]) M=some false:=zmy (v:=true) (x:=.lst [.str "machine"]) (y:=.lst [.str "machine"]) (show zas 64 (.lst [.str "machine"])=true by decide +kernel) (show zas 64 (.lst [.str "machine"])=true by decide +kernel) (show zbr (.lst [.str "machine"]) (.lst [.str "machine"])=true by decide +kernel)
theorem zt4 {d r:D}{k L a:Nat}{Z:Env}{g:GE}(ha:a=0\/a=1)(hd:Th k L d)(hL:L<=100)(hb:zex d=false)(eg:g Z M=.ok (nD a) M)(e8:Z[8]?.getD none=some d)(e5:Z[5]?.getD none=some r) :
 (zau (za9 .ne (zao 91 (zal P 39) (zaa g (zaa (zad 8) (zaa (zad 5) zaj)))) (zbd false (zaa (gS "machine") zaj))):GT) Z M=.ok false M:=by
 have e18:zal P 38 (askF a) [d,r] M=.err (.exc 3 none) M:=by
  rcases ha with rfl|rfl
  ·exact zsm h.m 29 hd hL hb
  ·exact ztx h.h19 37 (zsm h.m 28 hd hL hb)
 have t:=zr6 h.h91 ha h.h75 37 (i:=0) (x:=.exc 3 none) (by simp [zkc]) e18
 refine zdq ?_
 unfold za9
 rw [(zcx (zaw eg (zaw (zbl e8) (zaw (zbl e5) rfl)))).trans t]
 show (ofO M (zb2 .ne (.lst [.str "machine"]) (.lst [.str "machine"]) M)).bind _=_
 rw [z4i];rfl
theorem law03 (ns:List Int)(hn:ns.length<=63):∃M,zal P 40 93 [.frz (ns.map D.int)] []=.ok (.bl true) M:=by
 have goal:okE (zal P 40 93 [.frz (ns.map D.int)] []) fun d _=>d=.bl true:=by
  refine zay h.h93 rfl ?_
  show okE (zku (zal P 39) [some (.frz (ns.map D.int)),none,none,none,none,none,none,none,none] []) _
  unfold zku
  refine zd2 (k:=fun d M'=>d=.cell 1/\za3 M' 1 0) ?_ ?_
  ·rw [zcx (zaw (zbl rfl) rfl)]
   exact z3e h.p 38 hn
  rintro _ M1 ⟨rfl,q1⟩
  simp only [za5,zh8,zkh,e_c]
  refine ⟨4,rfl,by decide,?_⟩
  refine zgu (ds:=(List.range 4).map fun (k:Nat)=>D.int (k:Int)) (fun i Z M'=>za3 M' 1 (i*1000)/\∃x2 x3 x4 x5 x6 x7 x8,Z=[some (.frz (ns.map D.int)),some (.cell 1),x2,x3,x4,x5,x6,x7,x8]) (fun _ _ _ _=>rfl) ⟨q1,none,none,none,none,none,none,none,rfl⟩ ?_ ?_
  ·rintro i dd Z M' hd ⟨q2,x2,x3,x4,x5,x6,x7,x8,rfl⟩
   have hi:i<4:=by
    have:=(List.getElem?_eq_some_iff.mp hd).1
    simpa using this
   refine ⟨_,rfl,?_⟩
   refine zd2 (k:=fun d M''=>∃m:zcc,d=m.d/\zdf m/\za3 M'' 1 (i*1000+300)) ?_ ?_
   ·simp only [zen,zbq,zbx,e_c]
    show okE (zal P 39 30 [.cell 1] M') _
    refine zbo (z3h h.p 38 q2) ?_
    rintro _ M3 ⟨rfl,q3,_⟩
    show okE (zal P 39 34 [.cell 1,nD 4,nD 2,nD 6] M3) _
    exact zbo (zvj h.p 34 q3 (by omega) (by decide) (by decide) (by decide) (by decide) (by decide) (by decide)) fun d M4 ⟨m,e,hm,_,_,_,q4,_⟩=>⟨m,e,hm,q4⟩
   rintro _ M3 ⟨m,rfl,hm,q3⟩
   refine zd2 (k:=fun d M''=>∃xs,d=.lst xs/\(∀x∈xs,Thing x)/\za3 M'' 1 (i*1000+360)) ?_ ?_
   ·simp only [ze1,zen,zbq,zbx]
    show okE (zal P 39 92 [.cell 1,m.d] M3) _
    refine zbo (zvh h 35 hm q3 (by omega)) ?_
    rintro _ M4 ⟨xs,rfl,hl,hx,q4⟩
    show okE (zei false .add (.lst xs) (.lst six) M4) _
    refine zo1.mpr (zcn.mpr ⟨zax (by rw [List.length_append,hl];decide),_,rfl,fun x hxx=>?_,q4⟩)
    rcases List.mem_append.mp hxx with z|z
    ·exact hx x z
    ·exact six_ok z
   rintro _ M4 ⟨xs,rfl,hx,q4⟩
   refine ztq (fun Z=>∃y5 y6 y7,Z=[some (.frz (ns.map D.int)),some (.cell 1),some dd,some m.d,some (.lst xs),y5,y6,y7,x8]) (ds:=xs) (zbl rfl) ⟨_,_,_,rfl⟩ ?_ ?_
   ·rintro x hxx Z ⟨y5,y6,y7,rfl⟩
    obtain ⟨ρ',o,z6,z7,rfl⟩:=zzs h (M:=M4) (x0:=some (.frz (ns.map D.int))) (x1:=some (.cell 1)) (x2:=some dd) (x4:=some (.lst xs)) (x6:=y6) (x7:=y7) (x8:=x8) hm (hx x hxx)
    exact ⟨_,rfl,zbo o fun fl M5 ⟨e1,e2⟩=>⟨_,e1,⟨_,_,_,rfl⟩,e2⟩⟩
   rintro Z ⟨y5,y6,y7,rfl⟩
   refine zd2 (k:=fun d M''=>Th 7 7 d/\za3 M'' 1 (i*1000+400)) ?_ ?_
   ·rw [zcx (zaw (zbl rfl) (zaw (zbl rfl) (zaw rfl rfl)))]
    exact zbo (zuq h.p h.t h.w 5 28 (by decide) (zkp hm) (by decide) (by decide) (by decide) q4 (by omega)) fun d M' ⟨a,b,_⟩=>⟨a,b.mono (by omega)⟩
   rintro bad M5 ⟨tb,q5⟩
   have el:=zqi h.w 34 (M:=M5) tb (by decide) (by decide)
   show okE (zaf _ _ [some (.frz (ns.map D.int)),some (.cell 1),some dd,some m.d,some (.lst xs),y5,y6,y7,some bad] M5) _
   refine zd3 (zem (zdq (zj4 rfl el))) (fun hb=>?_) fun _=>⟨_,rfl,q5.mono (by omega),_,_,_,_,_,_,_,rfl⟩
   have hb:zex bad=false:=by simpa using hb
   refine ztq (fun Z=>∃y5,Z=[some (.frz (ns.map D.int)),some (.cell 1),some dd,some m.d,some (.lst xs),y5,y6,y7,some bad]) (ds:=[.lst [],.non,.lst [.int 9],.lst (zeros 41)]) (zkq (zaw rfl (zaw rfl (zaw rfl (zaw rfl rfl)))) (tqq rfl)) ⟨_,rfl⟩ ?_ ?_
   ·rintro r _ Z ⟨y5,rfl⟩
    exact ⟨_,rfl,zar (or_no (zt4 h (a:=0) (.inl rfl) tb (by decide) hb rfl rfl rfl) (zt4 h (a:=1) (.inr rfl) tb (by decide) hb rfl rfl rfl)) ⟨_,rfl,⟨_,rfl⟩,rfl⟩⟩
   ·rintro Z ⟨y5,rfl⟩
    exact ⟨_,rfl,q5.mono (by omega),_,_,_,_,_,_,_,rfl⟩
  ·rintro Z M' ⟨q2,x2,x3,x4,x5,x6,x7,x8,rfl⟩
   exact (rfl:D.bl true=.bl true)
 obtain ⟨d,M,e,rfl⟩:=zok.mp goal
 exact ⟨M,e⟩
end
end LD
namespace K03
open PySem PySem.Spec PyProof.Rows L2 LD
def top (i:Nat):Stmt:=PySem.Challenge.pw_leastdeeds_k03_rows_and_costs.main.body.getD i (.Pass ⟨0,0,0,0⟩)
abbrev zii:Stmt:=top 17
abbrev zk2:Stmt:=top 25
abbrev zj9:Stmt:=top 26
abbrev zk7:Stmt:=top 27
abbrev zhn:Stmt:=top 28
abbrev zhy:Stmt:=top 29
abbrev zd6:Stmt:=top 30
abbrev zk3:Stmt:=top 31
abbrev zk5:Stmt:=top 32
abbrev zk4:Stmt:=top 33
abbrev zlu:Stmt:=top 34
abbrev zk6:Stmt:=top 36
abbrev zgd:Stmt:=top 37
abbrev zgy:Stmt:=top 38
abbrev zf3:Stmt:=top 39
abbrev zgx:Stmt:=top 40
abbrev zj8:Stmt:=top 41
abbrev zfy:Stmt:=top 42
abbrev zo6:Stmt:=top 43
abbrev zho:Stmt:=top 45
abbrev zi8:Stmt:=top 46
abbrev zja:Stmt:=top 47
abbrev zi7:Stmt:=top 48
abbrev zev:Stmt:=top 49
abbrev zgq:Stmt:=top 50
abbrev zhp:Stmt:=top 51
abbrev zgp:Stmt:=top 52
abbrev zgz:Stmt:=top 53
abbrev zfa:Stmt:=top 54
abbrev zg3:Stmt:=top 55
abbrev zg2:Stmt:=top 56
abbrev zhz:Stmt:=top 57
abbrev zge:Stmt:=top 58
abbrev zij:Stmt:=top 59
abbrev zfh:Stmt:=top 60
abbrev zfi:Stmt:=top 61
abbrev zd7:Stmt:=top 62
abbrev zg0:Stmt:=top 63
abbrev zi9:Stmt:=top 64
abbrev zg1:Stmt:=top 65
abbrev zi6:Stmt:=top 66
abbrev zgo:Stmt:=top 67
abbrev zr9:Stmt:=top 68
abbrev zzv:Stmt:=inC (top 2)
abbrev ns0:List Str:=["thing","low","high"]
theorem nd0:ns0.Nodup:=by decide +kernel
abbrev ns1:List Str:=["words","thing"]
theorem nd1:ns1.Nodup:=by decide +kernel
abbrev ns2:List Str:=["places","thing"]
theorem nd2:ns2.Nodup:=by decide +kernel
abbrev ns3:List Str:=["thing"]
theorem nd3:ns3.Nodup:=by decide +kernel
abbrev ns4:List Str:=["long","thing"]
theorem nd4:ns4.Nodup:=by decide +kernel
abbrev ns5:List Str:=["word","words","thing"]
theorem nd5:ns5.Nodup:=by decide +kernel
abbrev ns6:List Str:=["table","words","thing"]
theorem nd6:ns6.Nodup:=by decide +kernel
abbrev ns7:List Str:=["words","places","parts","at","table","price"]
theorem nd7:ns7.Nodup:=by decide +kernel
abbrev ns8:List Str:=["words","places","parts","at","other","table","price"]
theorem nd8:ns8.Nodup:=by decide +kernel
abbrev ns9:List Str:=["words","places","parts","at","other","price"]
theorem nd9:ns9.Nodup:=by decide +kernel
abbrev ns10:List Str:=["words","places","parts","at","word","price"]
theorem nd10:ns10.Nodup:=by decide +kernel
abbrev ns11:List Str:=["words","places","thing","sort","is_sort"]
theorem nd11:ns11.Nodup:=by decide +kernel
abbrev ns12:List Str:=["thing","words","places","deeds"]
theorem nd12:ns12.Nodup:=by decide +kernel
abbrev ns13:List Str:=["deed","thing","words","places","deeds"]
theorem nd13:ns13.Nodup:=by decide +kernel
abbrev ns14:List Str:=["machine","thing"]
theorem nd14:ns14.Nodup:=by decide +kernel
abbrev ns15:List Str:=["machine","row","place","thing"]
theorem nd15:ns15.Nodup:=by decide +kernel
abbrev zht:List Str:=["machine","row"]
theorem nd16:zht.Nodup:=by decide +kernel
abbrev ns17:List Str:=["number","machine","row"]
theorem nd17:ns17.Nodup:=by decide +kernel
abbrev ns18:List Str:=["cell","at","primes","one","two","three"]
theorem nd18:ns18.Nodup:=by decide +kernel
abbrev ns19:List Str:=["script","cells","k","cell"]
theorem nd19:ns19.Nodup:=by decide +kernel
abbrev ns20:List Str:=["pen"]
theorem nd20:ns20.Nodup:=by decide +kernel
abbrev ns21:List Str:=["pen","many","at","cell","found"]
theorem nd21:ns21.Nodup:=by decide +kernel
abbrev ns22:List Str:=["pen","others","all_signs","some"]
theorem nd22:ns22.Nodup:=by decide +kernel
abbrev ns23:List Str:=["sign","pen","others","all_signs","some"]
theorem nd23:ns23.Nodup:=by decide +kernel
abbrev ns24:List Str:=["pen","text","at"]
theorem nd24:ns24.Nodup:=by decide +kernel
abbrev ns25:List Str:=["found","due"]
theorem nd25:ns25.Nodup:=by decide +kernel
abbrev ns26:List Str:=["one","other","found","due"]
theorem nd26:ns26.Nodup:=by decide +kernel
abbrev zlc:List Str:=["pen","words","kind","word","other","found"]
theorem nd27:zlc.Nodup:=by decide +kernel
abbrev ns28:List Str:=["k","pen","words","kind","word","other","found"]
theorem nd28:ns28.Nodup:=by decide +kernel
abbrev ns29:List Str:=["pen","words","places","kind","price","at","other"]
theorem nd29:ns29.Nodup:=by decide +kernel
abbrev ns30:List Str:=["k","pen","words","places","kind","price","at","other"]
theorem nd30:ns30.Nodup:=by decide +kernel
abbrev ns31:List Str:=["pen","words","places","most","deeds","k","again","deed"]
theorem zl5:ns31.Nodup:=by decide +kernel
abbrev ns32:List Str:=["pen","machine","most","kind","many","found"]
theorem nd32:ns32.Nodup:=by decide +kernel
abbrev ns33:List Str:=["k","pen","machine","most","kind","many","found"]
theorem nd33:ns33.Nodup:=by decide +kernel
abbrev ns34:List Str:=["thing","many","low","high"]
theorem nd34:ns34.Nodup:=by decide +kernel
abbrev ns35:List Str:=["one","thing","many","low","high"]
theorem nd35:ns35.Nodup:=by decide +kernel
abbrev ns36:List Str:=["thing","words","places"]
theorem nd36:ns36.Nodup:=by decide +kernel
abbrev ns37:List Str:=["one","thing","words","places"]
theorem nd37:ns37.Nodup:=by decide +kernel
abbrev ns38:List Str:=["deed","thing"]
theorem nd38:ns38.Nodup:=by decide +kernel
abbrev ns39:List Str:=["machine","row","place","number"]
theorem nd39:ns39.Nodup:=by decide +kernel
abbrev ns40:List Str:=["pen","thing","deep","kind","pick","number","at","odd","some"]
theorem zl4:ns40.Nodup:=by decide +kernel
abbrev ns41:List Str:=["caught","some","words"]
theorem znp:ns41.Nodup:=by decide +kernel
abbrev ns42:List Str:=["at","machine","row","caught","found","e"]
theorem zno:ns42.Nodup:=by decide +kernel
abbrev ns43:List Str:=["pen","machine","odd","pick","way","row","at","found"]
theorem zld:ns43.Nodup:=by decide +kernel
abbrev ns44:List Str:=["script","pen","turn","machine","things","thing","before","due","bad"]
theorem zji:ns44.Nodup:=by decide +kernel
def Pg:Nat->Option Df
 |0=>some ⟨3,3,zep⟩
 |1=>some ⟨2,2,zic⟩
 |2=>some ⟨2,2,zhf⟩
 |3=>some ⟨1,1,zid⟩
 |4=>some ⟨2,2,ze5⟩
 |5=>some ⟨2,2,zhe⟩
 |6=>some ⟨2,2,zdw⟩
 |7=>some ⟨3,6,zfp⟩
 |8=>some ⟨3,7,zfr⟩
 |9=>some ⟨3,6,zfq⟩
 |10=>some ⟨3,6,zgs⟩
 |11=>some ⟨3,5,zfs⟩
 |12=>some ⟨1,4,zeo⟩
 |13=>some ⟨1,1,zc9⟩
 |16=>some ⟨2,2,zd4⟩
 |17=>some ⟨2,4,zco⟩
 |18=>some ⟨2,2,zdo⟩
 |19=>some ⟨2,2,zhg⟩
 |28=>some ⟨2,6,zgg⟩
 |29=>some ⟨1,4,zh3⟩
 |30=>some ⟨1,1,zh4⟩
 |31=>some ⟨2,5,zkd⟩
 |32=>some ⟨2,6,zhh⟩
 |33=>some ⟨3,7,zgb⟩
 |34=>some ⟨4,8,zeq⟩
 |35=>some ⟨3,6,zhi⟩
 |40=>some ⟨2,2,zc6⟩
 |47=>some ⟨2,2,zdh⟩
 |64=>some ⟨2,4,zed⟩
 |65=>some ⟨1,1,zef⟩
 |66=>some ⟨2,3,ze6⟩
 |67=>some ⟨1,1,zhj⟩
 |68=>some ⟨3,3,zjt⟩
 |69=>some ⟨4,4,zf1⟩
 |70=>some ⟨3,3,zbm⟩
 |71=>some ⟨1,1,zdx⟩
 |72=>some ⟨3,9,zke⟩
 |75=>some ⟨1,3,zd0⟩
 |89=>some ⟨2,2,zjs⟩
 |90=>some ⟨2,4,zdz⟩
 |91=>some ⟨3,6,zda⟩
 |92=>some ⟨2,8,zee⟩
 |93=>some ⟨1,9,zku⟩
 |_=>none
end K03
set_option maxHeartbeats 4000000
namespace K03
open PySem PySem.Spec PyProof.Rows L2 LD
abbrev Fx (fa:Fa)(mg:Str->Option Value)(i:Nat)(x:Str):Prop:=∀ad,fa i=some ad->mg x=some (.ref ad)
structure Txt (K:PySem.W.Frag) (w:World) (mg:Str->Option Value) (fa:Fa):Prop where
 b0:mg "ValueError"=none
 b1:mg "all"=none
 b2:mg "bool"=none
 b3:mg "enumerate"=none
 b4:mg "int"=none
 b5:mg "isinstance"=none
 b6:mg "len"=none
 b7:mg "list"=none
 b8:mg "range"=none
 b9:mg "repr"=none
 b10:mg "str"=none
 b11:mg "sum"=none
 b12:mg "tuple"=none
 b13:mg "zip"=none
 c_LEAST_WORDS:∃t,mg "LEAST_WORDS"=some (.int 2 t)
 c_LONGEST_ROW:∃t,mg "LONGEST_ROW"=some (.int 40 t)
 c_MOST_COST:∃t,mg "MOST_COST"=some (.int 3 t)
 c_MOST_DEEDS:∃t,mg "MOST_DEEDS"=some (.int 6 t)
 c_MOST_PLACES:∃t,mg "MOST_PLACES"=some (.int 2 t)
 c_MOST_WORDS:∃t,mg "MOST_WORDS"=some (.int 4 t)
 d_SORTS:∃ad kvs,mg "SORTS"=some (.ref ad)/\zix K w.params ad kvs/\zfj fa kvs zdm
 xc:XCs fa K
 k_DeedError:∃D,mg "DeedError"=some (.ref D)/\fa 999=some D
 k_NoRow:∃D,mg "NoRow"=some (.ref D)/\fa (cid 0)=some D
 k_NoRule:∃D,mg "NoRule"=some (.ref D)/\fa (cid 1)=some D
 k_NoStep:∃D,mg "NoStep"=some (.ref D)/\fa (cid 2)=some D
 k_NoMachine:∃D,mg "NoMachine"=some (.ref D)/\fa (cid 3)=some D
 k_TooLong:∃D,mg "TooLong"=some (.ref D)/\fa (cid 4)=some D
 k_NoWord:∃D,mg "NoWord"=some (.ref D)/\fa (cid 5)=some D
 k_NoWork:∃D,mg "NoWork"=some (.ref D)/\fa (cid 6)=some D
 k_NoBound:∃D,mg "NoBound"=some (.ref D)/\fa (cid 7)=some D
 k_TooMany:∃D,mg "TooMany"=some (.ref D)/\fa (cid 8)=some D
 k_NoPlace:∃D,mg "NoPlace"=some (.ref D)/\fa (cid 9)=some D
 k_NoDeed:∃D,mg "NoDeed"=some (.ref D)/\fa (cid 10)=some D
 k_Nothing:∃D,mg "Nothing"=some (.ref D)/\fa (cid 11)=some D
 k_NoText:∃D,mg "NoText"=some (.ref D)/\fa (cid 12)=some D
 k_NoLine:∃D,mg "NoLine"=some (.ref D)/\fa (cid 13)=some D
 kr_NoMachine:∃C,mg "NoMachine"=some (.ref C)/\fa (cid 3)=some C/\PySem.W.excIn K C bmV "ValueError.__new__"=true
 kr_TooLong:∃C,mg "TooLong"=some (.ref C)/\fa (cid 4)=some C/\PySem.W.excIn K C bmV "ValueError.__new__"=true
 i_NoRow:∀(P:Program) (base:Heap),zkw fa P w K mg base 0 "NoRow"
 xf_number:XFl fa K "number"
 xf_place:XFl fa K "place"
 f0:Fx fa mg 0 "is_between"
 f1:Fx fa mg 1 "is_word"
 f2:Fx fa mg 2 "is_place"
 f3:Fx fa mg 3 "is_cost"
 f4:Fx fa mg 4 "is_tuple_of"
 f5:Fx fa mg 5 "is_table"
 f6:Fx fa mg 6 "is_double_table"
 f11:Fx fa mg 11 "is_deed"
 f12:Fx fa mg 12 "is_machine"
 f13:Fx fa mg 13 "need_machine"
 f16:Fx fa mg 16 "is_deed_number"
 f17:Fx fa mg 17 "need_numbers"
 f18:Fx fa mg 18 "need_row"
 f19:Fx fa mg 19 "cost"
 f28:Fx fa mg 28 "_law_spread"
 f29:Fx fa mg 29 "_law_open"
 f30:Fx fa mg 30 "_law_anew"
 f31:Fx fa mg 31 "_law_take"
 f32:Fx fa mg 32 "_law_tab"
 f33:Fx fa mg 33 "_law_deed"
 f34:Fx fa mg 34 "_law_machine"
 f35:Fx fa mg 35 "_law_row"
 f40:Fx fa mg 40 "_law_same"
 f47:Fx fa mg 47 "summed_cost"
 f64:Fx fa mg 64 "_law_sign_but"
 f65:Fx fa mg 65 "_law_any_sign"
 f66:Fx fa mg 66 "_law_signed"
 f67:Fx fa mg 67 "_law_is_whole"
 f68:Fx fa mg 68 "_law_is_in"
 f69:Fx fa mg 69 "_law_numbers"
 f70:Fx fa mg 70 "_law_is_deed"
 f71:Fx fa mg 71 "_law_is_machine"
 f72:Fx fa mg 72 "_law_bent"
 f75:Fx fa mg 75 "_law_refusal"
 f89:Fx fa mg 89 "_law_price"
 f90:Fx fa mg 90 "_law_row_due"
 f91:Fx fa mg 91 "_law_told"
 f92:Fx fa mg 92 "_law_odd_rows"
theorem boot_bool:bootBuiltins "bool"=some (.type (tyName .bool)):=by decide +kernel
theorem boot_int:bootBuiltins "int"=some (.type (tyName .int)):=by decide +kernel
theorem boot_list:bootBuiltins "list"=some (.type (tyName .list)):=by decide +kernel
theorem boot_str:bootBuiltins "str"=some (.type (tyName .str)):=by decide +kernel
theorem boot_tuple:bootBuiltins "tuple"=some (.type (tyName .tuple)):=by decide +kernel
section
variable {fa:Fa}{P:Program}{w:World}{K:PySem.W.Frag}{mg:Str->Option Value}{base:Heap}
def PDf (fa:Fa)(P:Program)(w:World)(K:PySem.W.Frag)(mg:Str->Option Value)(base:Heap)(ns:List Str)(x:Str)(st:Stmt)(b:Call->GS):Prop:=∀{f:Addr} (c:Call) (n:Nat) (cdv:Value) (A:Around) (outer:List PySem.Env) (s:Shared) (H:Hp) (E:XK),(∀f,zgc fa P w K mg base n f (c f))->zcl (n+4) (A.deeper (envOfC x (za0 st) s.heap.objs.size f cdv))->DSs fa (zfe (CXE P w) P w K mg base ns x (za0 st) f cdv A outer s H E) (zdg st) (b c)
theorem zbz {A:Around}{n:Nat}(h:zcl (n+4) A):A.units+100<cLine:=by have:=h.un;omega
theorem scp {ns ps:List Str}{sc:Scope}(nd:ns.Nodup)(a:sc.kind=.function:=by exact rfl)(b:sc.isCoroutine=false:=by exact rfl)(c:sc.isGenerator=false:=by exact rfl)(d:ns.take ps.length=ps:=by exact rfl)(e:∀x∈ps,sc.names.lookup x=some .local\/sc.names.lookup x=some .cell:=by decide +kernel)(f:∀y∈sc.names,y.2≠.free:=by decide +kernel):zf2 ns ps sc:=⟨a,b,c,nd,d,e,f⟩
theorem zsu (T:Txt K w mg fa):PDf fa P w K mg base ns0 "is_between" zii zep:=fun _ _ _ _ _ _ _ _ C hr=>have hu:=zbz hr;unbox (zae (za8 (zel (zds (zbk (zb3 zac T.b5 T.b2 boot_bool)) (zdp (zb1 (zbk (zb3 zac T.b5 T.b4 boot_int)))))) (zae (zat zcj) zai) zai) (zae (zat (zw2 hu zac zac zac)) zai))
theorem zx4 (T:Txt K w mg fa):PDf fa P w K mg base ns1 "is_word" zk2 zic:=fun _ _ _ _ _ _ _ _ C hr=>have hu:=zbz hr;unbox (zae (zat (zam C hr T.f0 (zab zac (zab zag (zab (zap zac zag) zah))))) zai)
theorem zvu (T:Txt K w mg fa):PDf fa P w K mg base ns2 "is_place" zj9 zhf:=fun _ _ _ _ _ _ _ _ C hr=>have hu:=zbz hr;unbox (zae (zat (zam C hr T.f0 (zab zac (zab zag (zab (zap zac zag) zah))))) zai)
theorem zx9 (T:Txt K w mg fa):PDf fa P w K mg base ns3 "is_cost" zk7 zid:=fun _ _ _ _ _ _ _ _ C hr=>have hu:=zbz hr;unbox (zae (zat (zam C hr T.f0 (zab zac (zab zag (zab (zgk T.c_MOST_COST) zah))))) zai)
theorem zra (T:Txt K w mg fa):PDf fa P w K mg base ns4 "is_tuple_of" zhn ze5:=fun _ _ _ _ _ _ _ _ C hr=>have hu:=zbz hr;unbox (zae (zat (zdv (zb3 zac T.b5 T.b12 boot_tuple) (ze3 (ze4 hu (zb9 T.b6 (zab zac zah)) zac)))) zai)
theorem zvt (T:Txt K w mg fa):PDf fa P w K mg base ns1 "is_table" zhy zhe:=fun _ _ _ _ _ _ _ _ C hr=>have hu:=zbz hr;unbox (zae (zat (zdv (zam C hr T.f4 (zab zac (zab zac zah))) (ze3 (zry T.b1 (zab (zeg (zcu (own:=["word"]) (bn:=ns1) (sc:=za0 zhy) (N:=ns1) rfl rfl rfl (by decide +kernel)) (ze8 zac) (fun cl C0 fp s0 H0=>zan nd5) (fun cl C0 fp s0 H0=>zam C hr T.f1 (zab zac (zab zac zah)))) zah))))) zai)
theorem zm3 (T:Txt K w mg fa):PDf fa P w K mg base ns1 "is_double_table" zd6 zdw:=fun _ _ _ _ _ _ _ _ C hr=>have hu:=zbz hr;unbox (zae (zat (zdv (zam C hr T.f4 (zab zac (zab zac zah))) (ze3 (zry T.b1 (zab (zeg (zcu (own:=["table"]) (bn:=ns1) (sc:=za0 zd6) (N:=ns1) rfl rfl rfl (by decide +kernel)) (ze8 zac) (fun cl C0 fp s0 H0=>zan nd6) (fun cl C0 fp s0 H0=>zam C hr T.f5 (zab zac (zab zac zah)))) zah))))) zai)
theorem zx5 (T:Txt K w mg fa):PDf fa P w K mg base ns7 "is_turn" zk3 zfp:=fun _ _ _ _ _ _ _ _ C hr=>have hu:=zbz hr;unbox (zae (za8 (zbf hu (zb9 T.b6 (zab zac zah)) zag) (zae (zat zcj) zai) zai) (zae (za1 zac (zfx nd7 (.cons rfl (.inl rfl) (.inl rfl) (.cons rfl (.inl rfl) (.inl rfl) (.cons rfl (.inl rfl) (.inl rfl) (.nil)))))) (zae (zat (zdv (zam C hr T.f2 (zab zac (zab zac zah))) (zdv (zam C hr T.f5 (zab zac (zab zac zah))) (ze3 (zam C hr T.f3 (zab zac zah)))))) zai)))
theorem zx7 (T:Txt K w mg fa):PDf fa P w K mg base ns8 "is_join" zk5 zfr:=fun _ _ _ _ _ _ _ _ C hr=>have hu:=zbz hr;unbox (zae (za8 (zbf hu (zb9 T.b6 (zab zac zah)) zag) (zae (zat zcj) zai) zai) (zae (za1 zac (zfx nd8 (.cons rfl (.inl rfl) (.inl rfl) (.cons rfl (.inl rfl) (.inl rfl) (.cons rfl (.inl rfl) (.inl rfl) (.cons rfl (.inl rfl) (.inl rfl) (.nil))))))) (zae (za8 (zel (zds (zb1 (zbk (zam C hr T.f2 (zab zac (zab zac zah))))) (zdp (zb1 (zbk (zam C hr T.f2 (zab zac (zab zac zah)))))))) (zae (zat zcj) zai) zai) (zae (zat (zdv (zam C hr T.f6 (zab zac (zab zac zah))) (ze3 (zam C hr T.f3 (zab zac zah))))) zai))))
theorem zx6 (T:Txt K w mg fa):PDf fa P w K mg base ns9 "is_move" zk4 zfq:=fun _ _ _ _ _ _ _ _ C hr=>have hu:=zbz hr;unbox (zae (za8 (zbf hu (zb9 T.b6 (zab zac zah)) zag) (zae (zat zcj) zai) zai) (zae (za1 zac (zfx nd9 (.cons rfl (.inl rfl) (.inl rfl) (.cons rfl (.inl rfl) (.inl rfl) (.cons rfl (.inl rfl) (.inl rfl) (.nil)))))) (zae (zat (zdv (zam C hr T.f2 (zab zac (zab zac zah))) (zdv (zam C hr T.f2 (zab zac (zab zac zah))) (ze3 (zam C hr T.f3 (zab zac zah)))))) zai)))
theorem z0m (T:Txt K w mg fa):PDf fa P w K mg base ns10 "is_put" zlu zgs:=fun _ _ _ _ _ _ _ _ C hr=>have hu:=zbz hr;unbox (zae (za8 (zbf hu (zb9 T.b6 (zab zac zah)) zag) (zae (zat zcj) zai) zai) (zae (za1 zac (zfx nd10 (.cons rfl (.inl rfl) (.inl rfl) (.cons rfl (.inl rfl) (.inl rfl) (.cons rfl (.inl rfl) (.inl rfl) (.nil)))))) (zae (zat (zdv (zam C hr T.f2 (zab zac (zab zac zah))) (zdv (zam C hr T.f1 (zab zac (zab zac zah))) (ze3 (zam C hr T.f3 (zab zac zah)))))) zai)))
theorem zx8 (T:Txt K w mg fa):PDf fa P w K mg base ns11 "is_deed" zk6 zfs:=fun _ _ _ _ _ _ _ _ C hr=>have hu:=zbz hr;unbox (zae (za8 (zel (zds (zb1 (zbk (zb3 zac T.b5 T.b12 boot_tuple))) (zdp (zb1 (zbk zac))))) (zae (zat zcj) zai) zai) (zae (za1 (zba zac zag) (zan nd11)) (zae (za8 (zel (zds (zb1 (zbk (zb3 zac T.b5 T.b10 boot_str))) (zdp (zzi T.d_SORTS zac)))) (zae (zat zcj) zai) zai) (zae (za1 (zzg T.d_SORTS zac) (zan nd11)) (zae (zat (zzh C hr (zab zac (zab zac (zab (zdk zac (zcm zag) zcv) zah))))) zai)))))
theorem zst (T:Txt K w mg fa):PDf fa P w K mg base ns12 "is_machine" zgd zeo:=fun _ _ _ _ _ _ _ _ C hr=>have hu:=zbz hr;unbox (zae (za8 (zb1 (zbk (zam C hr T.f4 (zab zag (zab zac zah))))) (zae (zat zcj) zai) zai) (zae (za1 zac (zfx nd12 (.cons rfl (.inr rfl) (.inl rfl) (.cons rfl (.inr rfl) (.inl rfl) (.cons rfl (.inl rfl) (.inl rfl) (.nil)))))) (zae (za8 (zel (zds (zb1 (zbk (zam C hr T.f0 (zab zac (zab (zgk T.c_LEAST_WORDS) (zab (zgk T.c_MOST_WORDS) zah)))))) (zdp (zb1 (zbk (zam C hr T.f0 (zab zac (zab zag (zab (zgk T.c_MOST_PLACES) zah))))))))) (zae (zat zcj) zai) zai) (zae (za8 (zel (zds (zb1 (zbk (zb3 zac T.b5 T.b12 boot_tuple))) (zdp (zb1 (zw3 hu zag (zb9 T.b6 (zab zac zah)) (zgk T.c_MOST_DEEDS)))))) (zae (zat zcj) zai) zai) (zae (zat (zry T.b1 (zab (zeg (zcu (own:=["deed"]) (bn:=ns12) (sc:=za0 zgd) (N:=ns12) rfl rfl rfl (by decide +kernel)) (ze8 zac) (fun cl C0 fp s0 H0=>zan nd13) (fun cl C0 fp s0 H0=>zam C hr T.f11 (zab zac (zab zac (zab zac zah))))) zah))) zai)))))
theorem zpe (T:Txt K w mg fa):PDf fa P w K mg base ns3 "need_machine" zgy zc9:=fun _ _ _ _ _ _ _ _ C hr=>have hu:=zbz hr;unbox (zae (za8 (zb1 (zbk (zam C hr T.f12 (zab zac zah)))) (zae (zrw T.kr_NoMachine (zab zbj zah)) zai) zai) zai)
theorem znl (T:Txt K w mg fa):PDf fa P w K mg base ns14 "is_deed_number" zf3 zd4:=fun _ _ _ _ _ _ _ _ C hr=>have hu:=zbz hr;unbox (zae (zat (zam C hr T.f0 (zab zac (zab zag (zab (zap (zb9 T.b6 (zab (zba zac zag) zah)) zag) zah))))) zai)
theorem zpd (T:Txt K w mg fa):PDf fa P w K mg base ns15 "need_numbers" zgx zco:=fun _ _ _ _ _ _ _ _ C hr=>have hu:=zbz hr;unbox (zae (za8 (zb1 (zbk (zb3 zac T.b5 T.b7 boot_list))) (zae (zp9 (T.i_NoRow P base) (room2 hr) zag) zai) zai) (zae (zi2 PassesOwn.leaving (zna zac T.b3) (zfx nd15 (.cons rfl (.inl rfl) (.inl rfl) (.cons rfl (.inl rfl) (.inl rfl) (.nil)))) (zae (za8 (zb1 (zbk (zam C hr T.f16 (zab zac (zab zac zah))))) (zae (zp9 (T.i_NoRow P base) (room2 hr) zac) zai) zai) zai)) zai))
theorem zvs (T:Txt K w mg fa):PDf fa P w K mg base zht "need_row" zj8 zdo:=fun _ _ _ _ _ _ _ _ C hr=>have hu:=zbz hr;unbox (zae (zrx (zkg C hr T.f13 (zab zac zah))) (zae (zrx (zkg C hr T.f17 (zab zac (zab zac zah)))) (zae (za8 (zbf hu (zb9 T.b6 (zab zac zah)) (zgk T.c_LONGEST_ROW)) (zae (zrw T.kr_TooLong (zab (xr_f3 (zgk T.c_LONGEST_ROW)) zah)) zai) zai) zai)))
theorem zq9 (T:Txt K w mg fa):PDf fa P w K mg base zht "summed_cost" zfy zdh:=fun _ _ _ _ _ _ _ _ C hr=>have hu:=zbz hr;unbox (zae (zat (zw1 T.b11 (zab (zeg (zcu (own:=["number"]) (bn:=zht) (sc:=za0 zfy) (N:=zht) rfl rfl rfl (by decide +kernel)) (ze8 zac) (fun cl C0 fp s0 H0=>zan nd17) (fun cl C0 fp s0 H0=>zba (zba (zba zac zag) zac) (zh5 zag))) zah))) zai)
theorem p_cost (T:Txt K w mg fa):PDf fa P w K mg base zht "cost" zo6 zhg:=fun _ _ _ _ _ _ _ _ C hr=>have hu:=zbz hr;unbox (zae (zrx (zkg C hr T.f18 (zab zac (zab zac zah)))) (zae (zat (zam C hr T.f47 (zab zac (zab zac zah)))) zai))
theorem zrb (T:Txt K w mg fa):PDf fa P w K mg base ns18 "_law_spread" zho zgg:=fun _ _ _ _ _ _ _ _ C hr=>have hu:=zbz hr;unbox (zae (za8 (zbf hu zac (zap zag zag)) (zae (zat zac) zai) zai) (zae (za1 (zbe (zab zag (zab zag (zab zag (zab zag (zab zag (zab zag (zab zag (zab zag zah))))))))) (zan nd18)) (zae (za1 (zap zac (zbe (zab zag (zab zag (zab zag (zab zag (zab zag zah))))))) (zan nd18)) (zae (za1 (zap (zap (zap (zap (zap (zap zac zag) (zap (zap zag zac) zag)) (zap zac zag)) zag) zag) (zba zac (zap zac zag))) (zan nd18)) (zae (za1 (zap (zap (zap (zap (zap zac (zap zac zag)) (zap zac zag)) zag) zag) (zba zac (zap (zap zac zag) zag))) (zan nd18)) (zae (za1 (zap (zap (zap (zap zac (zap zac zag)) zac) zag) (zba zac (zap (zap zac zag) zag))) (zan nd18)) (zae (zat (zap (zap (zap (zap zac zag) zac) zag) zac)) zai)))))))
theorem zt9 (T:Txt K w mg fa):PDf fa P w K mg base ns19 "_law_open" zi8 zh3:=fun _ _ _ _ _ _ _ _ C hr=>have hu:=zbz hr;unbox (zae (za1 (zuj T.b7 (zab (zdk zac zcv (zcm zag)) zah)) (zan nd19)) (zae (zi2 PassesOwn.leaving (zna (zdk zac (zcm zag) (zcm zag)) T.b3) (zfx nd19 (.cons rfl (.inl rfl) (.inl rfl) (.cons rfl (.inl rfl) (.inl rfl) (.nil)))) (zae (zi1 zac (zap zac zag) (zap (zba zac (zap zac zag)) zac)) zai)) (zae (zat (zbe (zab zac (zab zag (zab zag zah))))) zai)))
theorem zuc (T:Txt K w mg fa):PDf fa P w K mg base ns20 "_law_anew" zja zh4:=fun _ _ _ _ _ _ _ _ C hr=>have hu:=zbz hr;unbox (zae (zi1 zac zag zag) (zae (zat zac) zai))
theorem zt7 (T:Txt K w mg fa):PDf fa P w K mg base ns21 "_law_take" zi7 zkd:=fun _ _ _ _ _ _ _ _ C hr=>have hu:=zbz hr;unbox (zae (za8 (zbf hu (zba zac zag) zac) (zae (za1 (zba zac zag) (zan nd21)) (zae (za1 zag (zan nd21)) (zae (za8 (zbf hu zac (zb9 T.b6 (zab (zba zac zag) zah))) (zae (za1 (zba (zba zac zag) zac) (zan nd21)) zai) (zae (za8 (zbf hu (zb9 T.b6 (zab (zba zac zag) zah)) zag) (zae (za1 (zap (zba (zba zac zag) (zap (zap (zap zac zag) zag) (zb9 T.b6 (zab (zba zac zag) zah)))) (zap (zap zag zag) zac)) (zan nd21)) zai) zai) zai)) (zae (zi1 zac zag (zap zac zag)) (zae (zi1 zac zag (zam C hr T.f28 (zab zac (zab zac zah)))) zai))))) zai) (zae (za1 (zap (zba zac zag) zac) (zan nd21)) (zae (zi1 zac zag (zap (zba zac zag) zac)) (zae (zat zac) zai))))
theorem zog (T:Txt K w mg fa):PDf fa P w K mg base ns22 "_law_sign_but" zev zed:=fun _ _ _ _ _ _ _ _ C hr=>have hu:=zbz hr;unbox (zae (za1 zbj (zan nd22)) (zae (za1 (zap zac zbj) (zan nd22)) (zae (zw0 (zcu (own:=["sign"]) (bn:=ns22) (sc:=za0 zev) (N:=ns22) rfl rfl rfl (by decide +kernel)) (zzk zac) (fun cl C0 fp s0 H0=>zan nd23) (fun cl C0 fp s0 H0=>zbf hu zac zac) (fun cl C0 fp s0 H0=>zac) nd22) (zae (zat (zba zac (zam C hr T.f31 (zab zac (zab (zb9 T.b6 (zab zac zah)) zah))))) zai))))
theorem zoj (T:Txt K w mg fa):PDf fa P w K mg base ns20 "_law_any_sign" zgq zef:=fun _ _ _ _ _ _ _ _ C hr=>have hu:=zbz hr;unbox (zae (zat (zam C hr T.f64 (zab zac (zab zbj zah)))) zai)
theorem zrc (T:Txt K w mg fa):PDf fa P w K mg base ns24 "_law_signed" zhp ze6:=fun _ _ _ _ _ _ _ _ C hr=>have hu:=zbz hr;unbox (zae (za1 (zam C hr T.f31 (zab zac (zab (zap (zb9 T.b6 (zab zac zah)) zag) zah))) (zan nd24)) (zae (zat (zap (zap (zuh zac zcv (zcm zac)) (zam C hr T.f65 (zab zac zah))) (zuh zac (zcm (zap zac (zam C hr T.f31 (zab zac (zab zag zah))))) zcv))) zai))
theorem zoi (T:Txt K w mg fa):PDf fa P w K mg base ns3 "_law_is_whole" zgp zhj:=fun _ _ _ _ _ _ _ _ C hr=>have hu:=zbz hr;unbox (zae (zat (zdv (zb3 zac T.b5 T.b4 boot_int) (ze3 (xr_not (zb3 zac T.b5 T.b2 boot_bool))))) zai)
theorem zt8 (T:Txt K w mg fa):PDf fa P w K mg base ns25 "_law_same" zgz zc6:=fun _ _ _ _ _ _ _ _ C hr=>have hu:=zbz hr;unbox (zae (za8 (zbf hu zac zek) (zae (zat (ze4 hu zac zek)) zai) zai) (zae (za8 (zel (zds (zbk (zb3 zac T.b5 T.b2 boot_bool)) (zdp (zbk (zb3 zac T.b5 T.b2 boot_bool))))) (zae (zat (zdv (zb3 zac T.b5 T.b2 boot_bool) (zdv (zb3 zac T.b5 T.b2 boot_bool) (ze3 (ze4 hu zac zac))))) zai) zai) (zae (za8 (zbk (zb3 zac T.b5 T.b4 boot_int)) (zae (zat (zdv (zb3 zac T.b5 T.b4 boot_int) (ze3 (ze4 hu zac zac)))) zai) zai) (zae (za8 (zbk (zb3 zac T.b5 T.b10 boot_str)) (zae (zat (zdv (zb3 zac T.b5 T.b10 boot_str) (ze3 (ze4 hu zac zac)))) zai) zai) (zae (za8 (zel (zds (zbf hu (zb3 zac T.b5 T.b12 boot_tuple) (zb3 zac T.b5 T.b12 boot_tuple)) (zdp (zbf hu (zb3 zac T.b5 T.b7 boot_list) (zb3 zac T.b5 T.b7 boot_list))))) (zae (zat zcj) zai) zai) (zae (za8 (zbf hu (zb9 T.b6 (zab zac zah)) (zb9 T.b6 (zab zac zah))) (zae (zat zcj) zai) zai) (zae (zat (ze4 hu zcj (zeg (zcu (own:=["one" ,"other"]) (bn:=ns25) (sc:=za0 zgz) (N:=ns25) rfl rfl rfl (by decide +kernel)) (zzj zac zac T.b13) (fun cl C0 fp s0 H0=>zfx nd26 (.cons rfl (.inl rfl) (.inr rfl) (.cons rfl (.inl rfl) (.inr rfl) (.nil)))) (fun cl C0 fp s0 H0=>zam C hr T.f40 (zab zac (zab zac zah)))))) zai)))))))
theorem zvv (T:Txt K w mg fa):PDf fa P w K mg base zlc "_law_tab" zfa zhh:=fun _ _ _ _ _ _ _ _ C hr=>have hu:=zbz hr;unbox (zae (za1 (zam C hr T.f31 (zab zac (zab zag zah))) (zan nd27)) (zae (za1 (zam C hr T.f31 (zab zac (zab zac zah))) (zan nd27)) (zae (za1 (zam C hr T.f31 (zab zac (zab zac zah))) (zan nd27)) (zae (za8 (zbf hu zac zag) (zae (zat (zgj T.b12 (zab (zeg (zcu (own:=["k"]) (bn:=zlc) (sc:=za0 zfa) (N:=zlc) rfl rfl rfl (by decide +kernel)) (zgl zac T.b8) (fun cl C0 fp s0 H0=>zan nd28) (fun cl C0 fp s0 H0=>zam C hr T.f31 (zab zac (zab zac zah)))) zah))) zai) zai) (zae (za8 (zbf hu zac zag) (zae (zat (zgj T.b12 (zab (zeg (zcu (own:=["k"]) (bn:=zlc) (sc:=za0 zfa) (N:=zlc) rfl rfl rfl (by decide +kernel)) (zgl zac T.b8) (fun cl C0 fp s0 H0=>zan nd28) (fun cl C0 fp s0 H0=>zap (zap (zap zac zag) zac) zac)) zah))) zai) zai) (zae (za8 (zbf hu zac zag) (zae (zat (zgj T.b12 (zab (zeg (zcu (own:=["k"]) (bn:=zlc) (sc:=za0 zfa) (N:=zlc) rfl rfl rfl (by decide +kernel)) (zgl zac T.b8) (fun cl C0 fp s0 H0=>zan nd28) (fun cl C0 fp s0 H0=>zi3 (zbf hu zac zac) zac zac)) zah))) zai) zai) (zae (za8 (zbf hu zac zag) (zae (zat (zap (zdj (zab zac zah)) zac)) zai) zai) (zae (za1 (zzd zac T.b7 T.b8) (zan nd27)) (zae (zi1 zac zac zac) (zae (zi1 zac zac zac) (zae (zat (zgj T.b12 (zab zac zah))) zai)))))))))))
theorem zua (T:Txt K w mg fa):PDf fa P w K mg base ns29 "_law_deed" zg3 zgb:=fun _ _ _ _ _ _ _ _ C hr=>have hu:=zbz hr;unbox (zae (za1 (zam C hr T.f31 (zab zac (zab zag zah))) (zan nd29)) (zae (za1 (zap zag (zam C hr T.f31 (zab zac (zab zag zah)))) (zan nd29)) (zae (za1 (zam C hr T.f31 (zab zac (zab zac zah))) (zan nd29)) (zae (za1 (zam C hr T.f31 (zab zac (zab zac zah))) (zan nd29)) (zae (za8 (zbf hu zac zag) (zae (zat (zdj (zab zbj (zab zac (zab (zam C hr T.f32 (zab zac (zab zac zah))) (zab zac zah)))))) zai) zai) (zae (za8 (zbf hu zac zag) (zae (zat (zdj (zab zbj (zab zac (zab (zi3 (zbf hu zac zag) (zap (zap zac zag) zac) zac) (zab zac zah)))))) zai) zai) (zae (za8 (zbf hu zac zag) (zae (zat (zdj (zab zbj (zab zac (zab (zam C hr T.f31 (zab zac (zab zac zah))) (zab zac zah)))))) zai) zai) (zae (zat (zdj (zab zbj (zab zac (zab zac (zab (zgj T.b12 (zab (zeg (zcu (own:=["k"]) (bn:=ns29) (sc:=za0 zg3) (N:=ns29) rfl rfl rfl (by decide +kernel)) (zgl zac T.b8) (fun cl C0 fp s0 H0=>zan nd30) (fun cl C0 fp s0 H0=>zam C hr T.f32 (zab zac (zab zac zah)))) zah)) (zab zac zah))))))) zai))))))))
theorem zpi (T:Txt K w mg fa):PDf fa P w K mg base ns31 "_law_machine" zg2 zeq:=fun _ _ _ _ _ _ _ _ C hr=>have hu:=zbz hr;unbox (zae (za1 (zap zag (zam C hr T.f31 (zab zac (zab (zap zac zag) zah)))) (zan zl5)) (zae (za1 (zap zag (zam C hr T.f31 (zab zac (zab zac zah)))) (zan zl5)) (zae (za1 (zbe zah) (zan zl5)) (zae (zi2 PassesOwn.leaving (zgl (zap zag (zam C hr T.f31 (zab zac (zab zac zah)))) T.b8) (zan zl5) (zae (za1 (zam C hr T.f31 (zab zac (zab zag zah))) (zan zl5)) (zae (za1 (zam C hr T.f33 (zab zac (zab zac (zab zac zah)))) (zan zl5)) (zae (za8 (zel (zlq (zbf hu zac zag) (zo3 (zbf hu zac (zbe zah))))) (zae (za1 (zap (zdk (zba zac (zam C hr T.f31 (zab zac (zab (zb9 T.b6 (zab zac zah)) zah)))) zcv (zcm (zh5 zag))) (zdj (zab (zba zac (zh5 zag)) zah))) (zan zl5)) zai) zai) (zae (xs_app zac zac) zai))))) (zae (zat (zdj (zab zac (zab zac (zab (zgj T.b12 (zab zac zah)) zah))))) zai)))))
theorem zvw (T:Txt K w mg fa):PDf fa P w K mg base ns32 "_law_row" zhz zhi:=fun _ _ _ _ _ _ _ _ C hr=>have hu:=zbz hr;unbox (zae (za1 (zam C hr T.f31 (zab zac (zab zag zah))) (zan nd32)) (zae (za1 (zi3 (zbf hu zac zag) zac (zam C hr T.f31 (zab zac (zab (zap zac zag) zah)))) (zan nd32)) (zae (zzc (zcu (own:=["k"]) (bn:=ns32) (sc:=za0 zhz) (N:=ns32) rfl rfl rfl (by decide +kernel)) (zgl zac T.b8) (fun cl C0 fp s0 H0=>zan nd33) (fun cl C0 fp s0 H0=>zam C hr T.f31 (zab zac (zab (zb9 T.b6 (zab (zba zac zag) zah)) zah))) nd32) (zae (za8 (zbf hu zac zag) (zae (za1 (zdk (zap (zdk zac zcv (zcm zag)) zac) zcv (zcm zac)) (zan nd32)) zai) zai) (zae (zat zac) zai)))))
theorem zsv (T:Txt K w mg fa):PDf fa P w K mg base zht "_law_price" zge zjs:=fun _ _ _ _ _ _ _ _ C hr=>have hu:=zbz hr;unbox (zae (zat (zw1 T.b11 (zab (zeg (zcu (own:=["number"]) (bn:=zht) (sc:=za0 zge) (N:=zht) rfl rfl rfl (by decide +kernel)) (ze8 zac) (fun cl C0 fp s0 H0=>zan nd17) (fun cl C0 fp s0 H0=>zba (zba (zba zac zag) zac) (zh5 zag))) zah))) zai)
theorem zsw (T:Txt K w mg fa):PDf fa P w K mg base ns0 "_law_is_in" zij zjt:=fun _ _ _ _ _ _ _ _ C hr=>have hu:=zbz hr;unbox (zae (zat (zdv (zam C hr T.f67 (zab zac zah)) (ze3 (zw2 hu zac zac zac)))) zai)
theorem zph (T:Txt K w mg fa):PDf fa P w K mg base ns34 "_law_numbers" zfh zf1:=fun _ _ _ _ _ _ _ _ C hr=>have hu:=zbz hr;unbox (zae (za8 (zel (zds (zb1 (zbk (zb3 zac T.b5 T.b12 boot_tuple))) (zdp (zbf hu (zb9 T.b6 (zab zac zah)) zac)))) (zae (zat zcj) zai) zai) (zae (zat (ze4 hu (zlp (zcu (own:=["one"]) (bn:=ns34) (sc:=za0 zfh) (N:=ns34) rfl rfl rfl (by decide +kernel)) (ze8 zac) (fun cl C0 fp s0 H0=>zan nd35) (fun cl C0 fp s0 H0=>zb1 (zbk (zam C hr T.f68 (zab zac (zab zac (zab zac zah)))))) (fun cl C0 fp s0 H0=>zag)) (zbe zah))) zai))
theorem zpj (T:Txt K w mg fa):PDf fa P w K mg base ns36 "_law_is_deed" zfi zbm:=fun _ _ _ _ _ _ _ _ C hr=>have hu:=zbz hr;unbox (zae (za8 (zel (zds (zb1 (zbk (zb3 zac T.b5 T.b12 boot_tuple))) (zdp (zbf hu (zb9 T.b6 (zab zac zah)) (zdj (zab zag (zab zag zah))))))) (zae (zat zcj) zai) zai) (zae (za8 (zel (zds (zbf hu (zba zac zag) (zdj (zab zbj (zab zbj (zab zbj (zab zbj zah)))))) (zdp (zbf hu (ze4 hu (zb9 T.b6 (zab zac zah)) zag) (ze4 hu (zba zac zag) zbj))))) (zae (zat zcj) zai) zai) (zae (za8 (zel (zds (zb1 (zbk (zam C hr T.f69 (zab (zdj (zab (zba zac zag) zah)) (zab zag (zab zag (zab (zap zac zag) zah))))))) (zdp (zb1 (zbk (zam C hr T.f68 (zab (zba zac (zh5 zag)) (zab zag (zab zag zah))))))))) (zae (zat zcj) zai) zai) (zae (za8 (zbf hu (zba zac zag) zbj) (zae (zat (zam C hr T.f69 (zab (zba zac zag) (zab zac (zab zag (zab (zap zac zag) zah)))))) zai) zai) (zae (za8 (zbf hu (zba zac zag) zbj) (zae (zat (zam C hr T.f68 (zab (zba zac zag) (zab zag (zab (zap zac zag) zah))))) zai) zai) (zae (za8 (zb1 (zbk (zam C hr T.f68 (zab (zba zac zag) (zab zag (zab (zap zac zag) zah)))))) (zae (zat zcj) zai) zai) (zae (za8 (zbf hu (zba zac zag) zbj) (zae (zat zcj) zai) zai) (zae (za8 (zel (zds (zb1 (zbk (zb3 (zba zac zag) T.b5 T.b12 boot_tuple))) (zdp (zbf hu (zb9 T.b6 (zab (zba zac zag) zah)) zac)))) (zae (zat zcj) zai) zai) (zae (zat (ze4 hu (zlp (zcu (own:=["one"]) (bn:=ns36) (sc:=za0 zfi) (N:=ns36) rfl rfl rfl (by decide +kernel)) (ze8 (zba zac zag)) (fun cl C0 fp s0 H0=>zan nd37) (fun cl C0 fp s0 H0=>zb1 (zbk (zam C hr T.f69 (zab zac (zab zac (zab zag (zab (zap zac zag) zah))))))) (fun cl C0 fp s0 H0=>zag)) (zbe zah))) zai)))))))))
theorem zm4 (T:Txt K w mg fa):PDf fa P w K mg base ns3 "_law_is_machine" zd7 zdx:=fun _ _ _ _ _ _ _ _ C hr=>have hu:=zbz hr;unbox (zae (za8 (zel (zds (zb1 (zbk (zb3 zac T.b5 T.b12 boot_tuple))) (zds (zbf hu (zb9 T.b6 (zab zac zah)) zag) (zdp (zb1 (zbk (zam C hr T.f68 (zab (zba zac zag) (zab zag (zab zag zah)))))))))) (zae (zat zcj) zai) zai) (zae (za8 (zel (zds (zb1 (zbk (zam C hr T.f68 (zab (zba zac zag) (zab zag (zab zag zah)))))) (zds (zb1 (zbk (zb3 (zba zac zag) T.b5 T.b12 boot_tuple))) (zdp (zb1 (zw3 hu zag (zb9 T.b6 (zab (zba zac zag) zah)) zag)))))) (zae (zat zcj) zai) zai) (zae (zat (ze4 hu (zlp (zcu (own:=["deed"]) (bn:=ns3) (sc:=za0 zd7) (N:=ns3) rfl rfl rfl (by decide +kernel)) (ze8 (zba zac zag)) (fun cl C0 fp s0 H0=>zan nd38) (fun cl C0 fp s0 H0=>zb1 (zbk (zam C hr T.f70 (zab zac (zab (zba zac zag) (zab (zba zac zag) zah)))))) (fun cl C0 fp s0 H0=>zag)) (zbe zah))) zai)))
theorem zpf (T:Txt K w mg fa):PDf fa P w K mg base ns39 "_law_row_due" zg0 zdz:=fun _ _ _ _ _ _ _ _ C hr=>have hu:=zbz hr;unbox (zae (za8 (zb1 (zbk (zam C hr T.f71 (zab zac zah)))) (zae (zat (zbe (zab zbj zah))) zai) zai) (zae (za8 (zb1 (zbk (zb3 zac T.b5 T.b7 boot_list))) (zae (zat (zbe (zab zbj (zab zag zah)))) zai) zai) (zae (zi2 PassesOwn.leaving (zna zac T.b3) (zfx nd39 (.cons rfl (.inl rfl) (.inl rfl) (.cons rfl (.inl rfl) (.inl rfl) (.nil)))) (zae (za8 (zb1 (zbk (zam C hr T.f68 (zab zac (zab zag (zab (zap (zb9 T.b6 (zab (zba zac zag) zah)) zag) zah)))))) (zae (zat (zbe (zab zbj (zab zac zah)))) zai) zai) zai)) (zae (zat (zi3 (zbf hu (zb9 T.b6 (zab zac zah)) zag) (zbe (zab zbj zah)) zek)) zai))))
theorem zub (T:Txt K w mg fa):PDf fa P w K mg base ns40 "_law_bent" zi9 zke:=fun _ _ _ _ _ _ _ _ C hr=>have hu:=zbz hr;unbox (zae (za1 (zam C hr T.f31 (zab zac (zab zag zah))) (zan zl4)) (zae (za1 (zam C hr T.f31 (zab zac (zab zag zah))) (zan zl4)) (zae (za1 (zap (zam C hr T.f31 (zab zac (zab zag zah))) zag) (zan zl4)) (zae (za8 (zel (zlq (zbk (zb3 zac T.b5 T.b12 boot_tuple)) (zlq (zbf hu zac (zdj zah)) (zlq (zbf hu zac zag) (zo3 (zbf hu zac zag)))))) (zae (za1 (zam C hr T.f31 (zab zac (zab (zb9 T.b6 (zab zac zah)) zah))) (zan zl4)) (zae (zat (zap (zap (zdk zac zcv (zcm zac)) (zdj (zab (zam C hr T.f72 (zab zac (zab (zba zac zac) (zab (zap zac zag) zah)))) zah))) (zdk zac (zcm (zap zac zag)) zcv))) zai)) zai) (zae (za1 (zbe (zab zek (zab zcj (zab zcj (zab zbj (zab zbj (zab zbj (zab zbj (zab zbj (zab zbj (zab (zdj zah) (zab (zbe zah) (zab (zap zag zag) (zab (zh5 zag) (zab zag zah))))))))))))))) (zan zl4)) (zae (za1 (zap zac (zbe (zab zag (zab zag (zab (zdj (zab zag zah)) (zab (zbe (zab zag zah)) (zab zbj (zab zag zah)))))))) (zan zl4)) (zae (za8 (zbk (zb3 zac T.b5 T.b12 boot_tuple)) (zae (za1 (zbe (zab (zuj T.b7 (zab zac zah)) (zab (zap zac (zdk zac zcv (zcm zag))) (zab (zdk zac zcv (zcm (zh5 zag))) (zab (xr_rev zac) (zab (zap zac (zdj (zab zac zah))) (zab (zdk zac (zcm zag) zcv) (zab (zdj (zab zac zah)) zah)))))))) (zan zl4)) (zae (zat (zba (zap zac (zbe (zab (zba zac zac) zah))) zac)) zai)) zai) (zae (za8 (zbk (zam C hr T.f67 (zab zac zah))) (zae (zat (zba (zbe (zab (zap zac zag) (zab (zap zac zag) (zab (zap zag zac) (zab zac (zab zac (zab (ze4 hu zac zag) (zab (zap zag zac) (zab (zba zac zac) zah))))))))) zac)) zai) zai) (zae (za8 (zel (zlq (zbk (zb3 zac T.b5 T.b10 boot_str)) (zo3 (zbf hu zac zag)))) (zae (zat (zam C hr T.f66 (zab zac (zab zac zah)))) zai) zai) (zae (zat (zba zac zac)) zai))))))))))
theorem zpg (T:Txt K w mg fa):PDf fa P w K mg base ns41 "_law_refusal" zg1 zd0:=fun _ _ _ _ _ _ _ _ C hr=>have hu:=zbz hr;unbox (zae (za1 (zbe (zab (zdc T.xc T.k_NoRow zac T.b5) (zab (zdc T.xc T.k_NoRule zac T.b5) (zab (zdc T.xc T.k_NoStep zac T.b5) zah)))) (zan znp)) (zae (za1 (zap zac (zbe (zab (zdc T.xc T.k_NoMachine zac T.b5) (zab (zdc T.xc T.k_TooLong zac T.b5) (zab (zdc T.xc T.k_NoWord zac T.b5) zah))))) (zan znp)) (zae (za1 (zap zac (zbe (zab (zdc T.xc T.k_NoWork zac T.b5) (zab (zdc T.xc T.k_NoBound zac T.b5) (zab (zdc T.xc T.k_TooMany zac T.b5) zah))))) (zan znp)) (zae (za1 (zap zac (zbe (zab (zdc T.xc T.k_NoPlace zac T.b5) (zab (zdc T.xc T.k_NoDeed zac T.b5) (zab (zdc T.xc T.k_Nothing zac T.b5) zah))))) (zan znp)) (zae (za1 (zap zac (zbe (zab (zdc T.xc T.k_NoText zac T.b5) (zab (zdc T.xc T.k_NoLine zac T.b5) zah)))) (zan znp)) (zae (za8 (zel (zds (zbf hu (z27 zac) zag) (zds (zb1 (zbk (zzf T.xc T.k_DeedError zac T.b5))) (zdp (zb1 (zbk (zze T.xc zac T.b5 T.b0))))))) (zae (zat (zbe (zab zbj zah))) zai) zai) (zae (za8 (zbk (zba zac zag)) (zae (zat (zbe (zab zbj (zab (zm9 T.xc T.xf_place zac) zah)))) zai) zai) (zae (za8 (zbk (zba zac zag)) (zae (zat (zbe (zab zbj (zab (zm9 T.xc T.xf_number zac) zah)))) zai) zai) (zae (za8 (zbk (zba zac zag)) (zae (zat (zbe (zab zbj (zab (zm9 T.xc T.xf_place zac) zah)))) zai) zai) (zae (za1 (zbe (zab zbj (zab zbj (zab zbj (zab zbj (zab zbj (zab zbj (zab zbj (zab zbj (zab zbj (zab zbj (zab zbj zah)))))))))))) (zan znp)) (zae (zat (zbe (zab (zba zac (zap (z26 zac) zag)) zah))) zai)))))))))))
theorem zt6 (T:Txt K w mg fa):PDf fa P w K mg base ns42 "_law_told" zi6 zda:=fun _ _ _ _ _ _ _ _ C hr=>have hu:=zbz hr;unbox (zae (za1 zek (zan zno)) (zae (za1 zek (zan zno)) (zae (xs_try T.xc T.k_DeedError zno (fun pn Ex=>zae (za8 (zbf hu zac zag) (zae (zug (zkg C hr T.f18 (zab zac (zab zac zah))) (zan zno)) zai) (zae (zug (zkg C hr T.f19 (zab zac (zab zac zah))) (zan zno)) zai)) zai) (fun vx Ex=>zae (za1 zac (zan zno)) zai)) (zae (zat (zi3 (zbf hu zac zek) (zbe (zab zac zah)) (zam C hr T.f75 (zab zac zah)))) zai))))
theorem zoh (T:Txt K w mg fa):PDf fa P w K mg base ns43 "_law_odd_rows" zgo zee:=fun _ _ _ _ _ _ _ _ C hr=>have hu:=zbz hr;unbox (zae (za1 (zbe (zab (zh5 zag) (zab (zb9 T.b6 (zab (zba zac zag) zah)) (zab (zap (zb9 T.b6 (zab (zba zac zag) zah)) zag) (zab (zap zag zag) (zab zcj (zab zcj (zab zek (zab zbj (zab (zbe (zab zag zah)) (zab (zdj (zab zag zah)) (zab (zbe zah) (zab zag zah))))))))))))) (zan zld)) (zae (za1 (zam C hr T.f31 (zab zac (zab zag zah))) (zan zld)) (zae (za1 (zam C hr T.f31 (zab zac (zab zag zah))) (zan zld)) (zae (za1 (zam C hr T.f35 (zab zac (zab zac (zab zag zah)))) (zan zld)) (zae (za1 (zam C hr T.f31 (zab zac (zab (zap (zb9 T.b6 (zab zac zah)) zag) zah))) (zan zld)) (zae (za1 (zap (zap (zdk zac zcv (zcm zac)) (zbe (zab (zba zac zac) zah))) (zdk zac (zcm zac) zcv)) (zan zld)) (zae (za8 (zbf hu zac zag) (zae (za1 (zam C hr T.f31 (zab zac (zab (zap (zb9 T.b6 (zab zac zah)) zag) zah))) (zan zld)) (zae (za1 (zap (zap (zdk zac zcv (zcm zac)) (zbe (zab (zba zac (zam C hr T.f31 (zab zac (zab zag zah)))) zah))) (zdk zac (zcm zac) zcv)) (zan zld)) zai)) zai) (zae (zat (zbe (zab zac (zab zac (zab (zdk (zap (zap zac zac) zac) zcv (zcm zag)) (zab (zgj T.b12 (zab zac zah)) (zab (zdk (zap zac (zap (zbe (zab zag zah)) zag)) zcv (zcm zag)) (zab (zdk (zap zac (zap (zbe (zab zag zah)) zag)) zcv (zcm zag)) zah)))))))) zai))))))))
theorem p_law (T:Txt K w mg fa):PDf fa P w K mg base ns44 "law" zr9 zku:=fun _ _ _ _ _ _ _ _ C hr=>have hu:=zbz hr;unbox (zae (za1 (zam C hr T.f29 (zab zac zah)) (zan zji)) (zae (zi2 PassesOwn.leaving (zgl zag T.b8) (zan zji) (zae (za1 (zam C hr T.f34 (zab (zam C hr T.f30 (zab zac zah)) (zab zag (zab zag (zab zag zah))))) (zan zji)) (zae (za1 (zap (zam C hr T.f92 (zab zac (zab zac zah))) (zbe (zab zek (zab zag (zab zbj (zab (zdj zah) (zab (zbe (zab (zbe zah) zah)) (zab zbj zah)))))))) (zan zji)) (zae (zi2 PassesOwn.leaving (ze8 zac) (zan zji) (zae (za1 (zui hr T.b9 (zab zac zah)) (zan zji)) (zae (za1 (zam C hr T.f90 (zab zac (zab zac zah))) (zan zji)) (zae (za8 (zb1 (zbk (zam C hr T.f40 (zab (zam C hr T.f91 (zab zag (zab zac (zab zac zah)))) (zab (zi3 (zbf hu zac zek) (zbe (zab zek zah)) zac) zah))))) (zae (zat zcj) zai) zai) (zae (za8 (zb1 (zbk (zam C hr T.f40 (zab (zam C hr T.f91 (zab zag (zab zac (zab zac zah)))) (zab (zi3 (zbf hu zac zek) (zbe (zab (zam C hr T.f89 (zab zac (zab zac zah))) zah)) zac) zah))))) (zae (zat zcj) zai) zai) (zae (za8 (zbf hu (zui hr T.b9 (zab zac zah)) zac) (zae (zat zcj) zai) zai) zai)))))) (zae (za1 (zam C hr T.f72 (zab zac (zab zac (zab zag zah)))) (zan zji)) (zae (za8 (zb1 (zbk (zam C hr T.f71 (zab zac zah)))) (zae (zi2 PassesOwn.leaving (ze8 (zbe (zab (zbe zah) (zab zek (zab (zbe (zab zag zah)) (zab (zap (zbe (zab zag zah)) zag) zah)))))) (zan zji) (zae (za8 (zel (zds (zbf hu (zam C hr T.f91 (zab zag (zab zac (zab zac zah)))) (zbe (zab zbj zah))) (zdp (zbf hu (zam C hr T.f91 (zab zag (zab zac (zab zac zah)))) (zbe (zab zbj zah)))))) (zae (zat zcj) zai) zai) zai)) zai) zai) zai)))))) (zae (zat zcj) zai)))
end
end K03
namespace K03
open PySem PySem.Spec PyProof.Rows L2 LD
theorem z1k:∀ns:List Int,ns.length<=63->∃M,zal Pg 40 93 [.frz (ns.map D.int)] []=.ok (.bl true) M:=law03 (by repeat' (first|rfl|constructor))
abbrev qB:Str:="leastdeeds.machines"
abbrev faOf (l:List (Nat×Addr)):Fa:=LD.faX l [(0,44),(1,63),(2,82),(3,94),(4,106),(5,118),(6,130),(7,142),(8,154),(9,166),(10,178),(11,190),(12,202),(13,214)] 24
section
variable {P:Program}{w:World}{K:PySem.W.Frag}{mg:Str->Option Value}{base:Heap}{f0 f1 f2 f3 f4 f5 f6 f7 f8 f9 f10 f11 f12 f13 f16 f17 f18 f47 f19 f28 f29 f30 f31 f64 f65 f66 f67 f40 f32 f33 f34 f35 f89 f68 f69 f70 f71 f90 f72 f75 f91 f92 f93:Addr}{fd0 fd1 fd2 fd3 fd4 fd5 fd6 fd7 fd8 fd9 fd10 fd11 fd12 fd13 fd16 fd17 fd18 fd47 fd19 fd28 fd29 fd30 fd31 fd64 fd65 fd66 fd67 fd40 fd32 fd33 fd34 fd35 fd89 fd68 fd69 fd70 fd71 fd90 fd72 fd75 fd91 fd92 fd93:FuncData}
theorem zj6 {F:FuncData}{z:List Str}(h:∀a:Value,bindArgs F ⟨[a],[]⟩=pure (z.zip [a])):∀us:List Value,us.length=1->bindArgs F ⟨us,[]⟩=pure (z.zip us):=LD.us1 h
theorem zeu {F:FuncData}{z:List Str}(h:∀a b:Value,bindArgs F ⟨[a,b],[]⟩=pure (z.zip [a,b])):∀us:List Value,us.length=2->bindArgs F ⟨us,[]⟩=pure (z.zip us):=LD.us2 h
theorem zig {F:FuncData}{z:List Str}(h:∀a b c:Value,bindArgs F ⟨[a,b,c],[]⟩=pure (z.zip [a,b,c])):∀us:List Value,us.length=3->bindArgs F ⟨us,[]⟩=pure (z.zip us):=LD.us3 h
theorem usb4 {F:FuncData}{z:List Str}(h:∀a b c d:Value,bindArgs F ⟨[a,b,c,d],[]⟩=pure (z.zip [a,b,c,d])):∀us:List Value,us.length=4->bindArgs F ⟨us,[]⟩=pure (z.zip us):=LD.us4 h
theorem mkf {h:Heap}(x:Str)(st:Stmt)(f c:Addr)(pm:Str)(t:Tok)(X:K.In h)(G:h.Ns mainGlobals mg)(a:PySem.W.nsIn K mainGlobals x=some (some (.ref f)):=by kernel_rfl)(l:K.lookup f=some ⟨.type "function",none,.func (PySem.W.fnOf x x (zfb st) (zdg st) (za0 st) .none .none .none (.str pm t) none (.ref c) .none),#[]⟩:=by kernel_rfl)(e:PySem.W.codeIn K (.ref c) x=true:=by kernel_rfl)(k:PySem.W.keepIn K (.ref f)=true:=by kernel_rfl):∃f fd,mg x=some (.ref f)/\Fun K x x st f fd:=LD.mk_fn X G a l e k
theorem mkd {k i j:Nat}{b:Call->GS}{ps ns:List Str}{st:Stmt}{x:Str}{fa:Fa}{f:Addr}{fd:FuncData}(F:Fun K x x st f fd)(p:PDf fa P w K mg base ns x st b)(sc:zf2 ns ps (za0 st))(hb:∀(kV doc pm:Value) (an:Option Addr) (cdv ct:Value) (us:List Value),us.length=ps.length->bindArgs (PySem.W.fnOf x x (zfb st) (zdg st) (za0 st) .none kV doc pm an cdv ct) ⟨us,[]⟩=pure (ps.zip us))(hf:fa k=some f:=by exact rfl)(h1:i=ps.length:=by exact rfl)(h2:j=ns.length:=by exact rfl):zrt fa P w K mg base k ⟨i,j,b⟩:=⟨f,fd,ps,ns,st,x,x,hf,F,F.binds hb,sc,h1,h2,@p _⟩
set_option maxHeartbeats 0 in
theorem z49 (F0:Fun K "is_between" "is_between" zii f0 fd0)(F1:Fun K "is_word" "is_word" zk2 f1 fd1)(F2:Fun K "is_place" "is_place" zj9 f2 fd2)(F3:Fun K "is_cost" "is_cost" zk7 f3 fd3)(F4:Fun K "is_tuple_of" "is_tuple_of" zhn f4 fd4)(F5:Fun K "is_table" "is_table" zhy f5 fd5)(F6:Fun K "is_double_table" "is_double_table" zd6 f6 fd6)(F7:Fun K "is_turn" "is_turn" zk3 f7 fd7)(F8:Fun K "is_join" "is_join" zk5 f8 fd8)(F9:Fun K "is_move" "is_move" zk4 f9 fd9)(F10:Fun K "is_put" "is_put" zlu f10 fd10)(F11:Fun K "is_deed" "is_deed" zk6 f11 fd11)(F12:Fun K "is_machine" "is_machine" zgd f12 fd12)(F13:Fun K "need_machine" "need_machine" zgy f13 fd13)(F16:Fun K "is_deed_number" "is_deed_number" zf3 f16 fd16)(F17:Fun K "need_numbers" "need_numbers" zgx f17 fd17)(F18:Fun K "need_row" "need_row" zj8 f18 fd18)(F47:Fun K "summed_cost" "summed_cost" zfy f47 fd47)(F19:Fun K "cost" "cost" zo6 f19 fd19)(F28:Fun K "_law_spread" "_law_spread" zho f28 fd28)(F29:Fun K "_law_open" "_law_open" zi8 f29 fd29)(F30:Fun K "_law_anew" "_law_anew" zja f30 fd30)(F31:Fun K "_law_take" "_law_take" zi7 f31 fd31)(F64:Fun K "_law_sign_but" "_law_sign_but" zev f64 fd64)(F65:Fun K "_law_any_sign" "_law_any_sign" zgq f65 fd65)(F66:Fun K "_law_signed" "_law_signed" zhp f66 fd66)(F67:Fun K "_law_is_whole" "_law_is_whole" zgp f67 fd67)(F40:Fun K "_law_same" "_law_same" zgz f40 fd40)(F32:Fun K "_law_tab" "_law_tab" zfa f32 fd32)(F33:Fun K "_law_deed" "_law_deed" zg3 f33 fd33)(F34:Fun K "_law_machine" "_law_machine" zg2 f34 fd34)(F35:Fun K "_law_row" "_law_row" zhz f35 fd35)(F89:Fun K "_law_price" "_law_price" zge f89 fd89)(F68:Fun K "_law_is_in" "_law_is_in" zij f68 fd68)(F69:Fun K "_law_numbers" "_law_numbers" zfh f69 fd69)(F70:Fun K "_law_is_deed" "_law_is_deed" zfi f70 fd70)(F71:Fun K "_law_is_machine" "_law_is_machine" zd7 f71 fd71)(F90:Fun K "_law_row_due" "_law_row_due" zg0 f90 fd90)(F72:Fun K "_law_bent" "_law_bent" zi9 f72 fd72)(F75:Fun K "_law_refusal" "_law_refusal" zg1 f75 fd75)(F91:Fun K "_law_told" "_law_told" zi6 f91 fd91)(F92:Fun K "_law_odd_rows" "_law_odd_rows" zgo f92 fd92)(F93:Fun K "law" "law" zr9 f93 fd93)(T:Txt K w mg (faOf [(0,f0),(1,f1),(2,f2),(3,f3),(4,f4),(5,f5),(6,f6),(7,f7),(8,f8),(9,f9),(10,f10),(11,f11),(12,f12),(13,f13),(16,f16),(17,f17),(18,f18),(47,f47),(19,f19),(28,f28),(29,f29),(30,f30),(31,f31),(64,f64),(65,f65),(66,f66),(67,f67),(40,f40),(32,f32),(33,f33),(34,f34),(35,f35),(89,f89),(68,f68),(69,f69),(70,f70),(71,f71),(90,f90),(72,f72),(75,f75),(91,f91),(92,f92),(93,f93)])):∀f d,Pg f=some d->zrt (faOf [(0,f0),(1,f1),(2,f2),(3,f3),(4,f4),(5,f5),(6,f6),(7,f7),(8,f8),(9,f9),(10,f10),(11,f11),(12,f12),(13,f13),(16,f16),(17,f17),(18,f18),(47,f47),(19,f19),(28,f28),(29,f29),(30,f30),(31,f31),(64,f64),(65,f65),(66,f66),(67,f67),(40,f40),(32,f32),(33,f33),(34,f34),(35,f35),(89,f89),(68,f68),(69,f69),(70,f70),(71,f71),(90,f90),(72,f72),(75,f75),(91,f91),(92,f92),(93,f93)]) P w K mg base f d:=fun f d e=>by
 match f,e with
 |0,e=>cases e;exact mkd (ps:=ns0.take 3) F0 (zsu T) (scp nd0) (fun _ _ _ _ _ _=>zig fun _ _ _=>rfl)
 |1,e=>cases e;exact mkd (ps:=ns1.take 2) F1 (zx4 T) (scp nd1) (fun _ _ _ _ _ _=>zeu fun _ _=>rfl)
 |2,e=>cases e;exact mkd (ps:=ns2.take 2) F2 (zvu T) (scp nd2) (fun _ _ _ _ _ _=>zeu fun _ _=>rfl)
 |3,e=>cases e;exact mkd (ps:=ns3.take 1) F3 (zx9 T) (scp nd3) (fun _ _ _ _ _ _=>zj6 fun _=>rfl)
 |4,e=>cases e;exact mkd (ps:=ns4.take 2) F4 (zra T) (scp nd4) (fun _ _ _ _ _ _=>zeu fun _ _=>rfl)
 |5,e=>cases e;exact mkd (ps:=ns1.take 2) F5 (zvt T) (scp nd1) (fun _ _ _ _ _ _=>zeu fun _ _=>rfl)
 |6,e=>cases e;exact mkd (ps:=ns1.take 2) F6 (zm3 T) (scp nd1) (fun _ _ _ _ _ _=>zeu fun _ _=>rfl)
 |7,e=>cases e;exact mkd (ps:=ns7.take 3) F7 (zx5 T) (scp nd7) (fun _ _ _ _ _ _=>zig fun _ _ _=>rfl)
 |8,e=>cases e;exact mkd (ps:=ns8.take 3) F8 (zx7 T) (scp nd8) (fun _ _ _ _ _ _=>zig fun _ _ _=>rfl)
 |9,e=>cases e;exact mkd (ps:=ns9.take 3) F9 (zx6 T) (scp nd9) (fun _ _ _ _ _ _=>zig fun _ _ _=>rfl)
 |10,e=>cases e;exact mkd (ps:=ns10.take 3) F10 (z0m T) (scp nd10) (fun _ _ _ _ _ _=>zig fun _ _ _=>rfl)
 |11,e=>cases e;exact mkd (ps:=ns11.take 3) F11 (zx8 T) (scp nd11) (fun _ _ _ _ _ _=>zig fun _ _ _=>rfl)
 |12,e=>cases e;exact mkd (ps:=ns12.take 1) F12 (zst T) (scp nd12) (fun _ _ _ _ _ _=>zj6 fun _=>rfl)
 |13,e=>cases e;exact mkd (ps:=ns3.take 1) F13 (zpe T) (scp nd3) (fun _ _ _ _ _ _=>zj6 fun _=>rfl)
 |14,e=>cases e
 |15,e=>cases e
 |16,e=>cases e;exact mkd (ps:=ns14.take 2) F16 (znl T) (scp nd14) (fun _ _ _ _ _ _=>zeu fun _ _=>rfl)
 |17,e=>cases e;exact mkd (ps:=ns15.take 2) F17 (zpd T) (scp nd15) (fun _ _ _ _ _ _=>zeu fun _ _=>rfl)
 |18,e=>cases e;exact mkd (ps:=zht.take 2) F18 (zvs T) (scp nd16) (fun _ _ _ _ _ _=>zeu fun _ _=>rfl)
 |19,e=>cases e;exact mkd (ps:=zht.take 2) F19 (p_cost T) (scp nd16) (fun _ _ _ _ _ _=>zeu fun _ _=>rfl)
 |20,e=>cases e
 |21,e=>cases e
 |22,e=>cases e
 |23,e=>cases e
 |24,e=>cases e
 |25,e=>cases e
 |26,e=>cases e
 |27,e=>cases e
 |28,e=>cases e;exact mkd (ps:=ns18.take 2) F28 (zrb T) (scp nd18) (fun _ _ _ _ _ _=>zeu fun _ _=>rfl)
 |29,e=>cases e;exact mkd (ps:=ns19.take 1) F29 (zt9 T) (scp nd19) (fun _ _ _ _ _ _=>zj6 fun _=>rfl)
 |30,e=>cases e;exact mkd (ps:=ns20.take 1) F30 (zuc T) (scp nd20) (fun _ _ _ _ _ _=>zj6 fun _=>rfl)
 |31,e=>cases e;exact mkd (ps:=ns21.take 2) F31 (zt7 T) (scp nd21) (fun _ _ _ _ _ _=>zeu fun _ _=>rfl)
 |32,e=>cases e;exact mkd (ps:=zlc.take 2) F32 (zvv T) (scp nd27) (fun _ _ _ _ _ _=>zeu fun _ _=>rfl)
 |33,e=>cases e;exact mkd (ps:=ns29.take 3) F33 (zua T) (scp nd29) (fun _ _ _ _ _ _=>zig fun _ _ _=>rfl)
 |34,e=>cases e;exact mkd (ps:=ns31.take 4) F34 (zpi T) (scp zl5) (fun _ _ _ _ _ _=>usb4 fun _ _ _ _=>rfl)
 |35,e=>cases e;exact mkd (ps:=ns32.take 3) F35 (zvw T) (scp nd32) (fun _ _ _ _ _ _=>zig fun _ _ _=>rfl)
 |36,e=>cases e
 |37,e=>cases e
 |38,e=>cases e
 |39,e=>cases e
 |40,e=>cases e;exact mkd (ps:=ns25.take 2) F40 (zt8 T) (scp nd25) (fun _ _ _ _ _ _=>zeu fun _ _=>rfl)
 |41,e=>cases e
 |42,e=>cases e
 |43,e=>cases e
 |44,e=>cases e
 |45,e=>cases e
 |46,e=>cases e
 |47,e=>cases e;exact mkd (ps:=zht.take 2) F47 (zq9 T) (scp nd16) (fun _ _ _ _ _ _=>zeu fun _ _=>rfl)
 |48,e=>cases e
 |49,e=>cases e
 |50,e=>cases e
 |51,e=>cases e
 |52,e=>cases e
 |53,e=>cases e
 |54,e=>cases e
 |55,e=>cases e
 |56,e=>cases e
 |57,e=>cases e
 |58,e=>cases e
 |59,e=>cases e
 |60,e=>cases e
 |61,e=>cases e
 |62,e=>cases e
 |63,e=>cases e
 |64,e=>cases e;exact mkd (ps:=ns22.take 2) F64 (zog T) (scp nd22) (fun _ _ _ _ _ _=>zeu fun _ _=>rfl)
 |65,e=>cases e;exact mkd (ps:=ns20.take 1) F65 (zoj T) (scp nd20) (fun _ _ _ _ _ _=>zj6 fun _=>rfl)
 |66,e=>cases e;exact mkd (ps:=ns24.take 2) F66 (zrc T) (scp nd24) (fun _ _ _ _ _ _=>zeu fun _ _=>rfl)
 |67,e=>cases e;exact mkd (ps:=ns3.take 1) F67 (zoi T) (scp nd3) (fun _ _ _ _ _ _=>zj6 fun _=>rfl)
 |68,e=>cases e;exact mkd (ps:=ns0.take 3) F68 (zsw T) (scp nd0) (fun _ _ _ _ _ _=>zig fun _ _ _=>rfl)
 |69,e=>cases e;exact mkd (ps:=ns34.take 4) F69 (zph T) (scp nd34) (fun _ _ _ _ _ _=>usb4 fun _ _ _ _=>rfl)
 |70,e=>cases e;exact mkd (ps:=ns36.take 3) F70 (zpj T) (scp nd36) (fun _ _ _ _ _ _=>zig fun _ _ _=>rfl)
 |71,e=>cases e;exact mkd (ps:=ns3.take 1) F71 (zm4 T) (scp nd3) (fun _ _ _ _ _ _=>zj6 fun _=>rfl)
 |72,e=>cases e;exact mkd (ps:=ns40.take 3) F72 (zub T) (scp zl4) (fun _ _ _ _ _ _=>zig fun _ _ _=>rfl)
 |73,e=>cases e
 |74,e=>cases e
 |75,e=>cases e;exact mkd (ps:=ns41.take 1) F75 (zpg T) (scp znp) (fun _ _ _ _ _ _=>zj6 fun _=>rfl)
 |76,e=>cases e
 |77,e=>cases e
 |78,e=>cases e
 |79,e=>cases e
 |80,e=>cases e
 |81,e=>cases e
 |82,e=>cases e
 |83,e=>cases e
 |84,e=>cases e
 |85,e=>cases e
 |86,e=>cases e
 |87,e=>cases e
 |88,e=>cases e
 |89,e=>cases e;exact mkd (ps:=zht.take 2) F89 (zsv T) (scp nd16) (fun _ _ _ _ _ _=>zeu fun _ _=>rfl)
 |90,e=>cases e;exact mkd (ps:=ns39.take 2) F90 (zpf T) (scp nd39) (fun _ _ _ _ _ _=>zeu fun _ _=>rfl)
 |91,e=>cases e;exact mkd (ps:=ns42.take 3) F91 (zt6 T) (scp zno) (fun _ _ _ _ _ _=>zig fun _ _ _=>rfl)
 |92,e=>cases e;exact mkd (ps:=ns43.take 2) F92 (zoh T) (scp zld) (fun _ _ _ _ _ _=>zeu fun _ _=>rfl)
 |93,e=>cases e;exact mkd (ps:=ns44.take 1) F93 (p_law T) (scp zji) (fun _ _ _ _ _ _=>zj6 fun _=>rfl)
 |k+94,e=>cases e
end
end K03
open PySem PySem.W PyProof.Rows K03
set_option maxRecDepth 100000 in
set_option maxHeartbeats 0 in
theorem PySem.Challenge.cw_leastdeeds_k03_rows_and_costs_holds : PySem.Challenge.rw_leastdeeds_k03_rows_and_costs.Holds := by
 w_on;o_law
 refine PySem.W.holds_open (r:=K03.krow) (q:=K03.kq) (loose:=K03.zoo) (Xt:=fun s=>PySem.W.xlAt K03.kq [] s&&PySem.W.recOk (PySem.W.RowW.records K03.krow.toRowW) s) (XP:=PySem.W.XL K03.kq []) (Yf:=K03.kH.obs) (Ya:=K03.kH.val) (YP:=K03.kH.says) (N:=9582) K03.kleft K03.kH.of K03.kH.keeps (fun s e=>PySem.W.xl_of s (Bool.and_eq_true_iff.mp e).1) PySem.W.XL.keeps (by rfl) (by rfl) (by rfl) (fun s e=>PySem.W.recFacts_of (Bool.and_eq_true_iff.mp e).2) (by rfl) (by first|assumption|decide +kernel) (by decide +kernel) ⟨rfl,rfl,rfl,rfl,rfl,by decide +kernel⟩ ?hw ?hc
 case hw=>w_witness2
 refine L2.z28 (l:=PySem.Challenge.rw_leastdeeds_k03_rows_and_costs) (n:=63) (k:=44) (x:="script") (CX:=fun w=>LD.CXE PySem.Challenge.rw_leastdeeds_k03_rows_and_costs.prog w) (K:=K03.kh) (sp:=fun w=>LD.spLaw (K03.kh w.params)) rfl (by decide) rfl ⟨rfl,by decide,by decide,rfl⟩ (fun w h Y=>PySem.W.kIn_of Y) ?F (fun w H a ns hl hO hS=>⟨a,ns,rfl,hS,hO,hl,fun _=>rfl⟩) (fun _ _ _ _ _ z=>let ⟨_,_,_,_,_,_,_,_,_,_,q⟩:=z;q)
 case F=>
  intro w mg fa h KX G hmg
  obtain ⟨f0,fd0,m0,F0⟩:=mkf "is_between" zii 223 222 "leastdeeds.wholes" 458 KX G
  obtain ⟨f1,fd1,m1,F1⟩:=mkf "is_word" zk2 230 229 qB 469 KX G
  obtain ⟨f2,fd2,m2,F2⟩:=mkf "is_place" zj9 237 236 qB 469 KX G
  obtain ⟨f3,fd3,m3,F3⟩:=mkf "is_cost" zk7 244 243 qB 469 KX G
  obtain ⟨f4,fd4,m4,F4⟩:=mkf "is_tuple_of" zhn 251 250 qB 469 KX G
  obtain ⟨f5,fd5,m5,F5⟩:=mkf "is_table" zhy 256 255 qB 469 KX G
  obtain ⟨f6,fd6,m6,F6⟩:=mkf "is_double_table" zd6 261 260 qB 469 KX G
  obtain ⟨f7,fd7,m7,F7⟩:=mkf "is_turn" zk3 268 267 qB 469 KX G
  obtain ⟨f8,fd8,m8,F8⟩:=mkf "is_join" zk5 275 274 qB 469 KX G
  obtain ⟨f9,fd9,m9,F9⟩:=mkf "is_move" zk4 282 281 qB 469 KX G
  obtain ⟨f10,fd10,m10,F10⟩:=mkf "is_put" zlu 289 288 qB 469 KX G
  obtain ⟨f11,fd11,m11,F11⟩:=mkf "is_deed" zk6 297 296 qB 469 KX G
  obtain ⟨f12,fd12,m12,F12⟩:=mkf "is_machine" zgd 302 301 qB 469 KX G
  obtain ⟨f13,fd13,m13,F13⟩:=mkf "need_machine" zgy 309 308 qB 469 KX G
  obtain ⟨f16,fd16,m16,F16⟩:=mkf "is_deed_number" zf3 316 315 qB 469 KX G
  obtain ⟨f17,fd17,m17,F17⟩:=mkf "need_numbers" zgx 323 322 qB 469 KX G
  obtain ⟨f18,fd18,m18,F18⟩:=mkf "need_row" zj8 330 329 qB 469 KX G
  obtain ⟨f47,fd47,m47,F47⟩:=mkf "summed_cost" zfy 335 334 qB 469 KX G
  obtain ⟨f19,fd19,m19,F19⟩:=mkf "cost" zo6 342 341 qB 469 KX G
  obtain ⟨f28,fd28,m28,F28⟩:=mkf "_law_spread" zho 349 348 "law_leastdeeds_k03_rows_and_costs" 648 KX G
  obtain ⟨f29,fd29,m29,F29⟩:=mkf "_law_open" zi8 356 355 "law_leastdeeds_k03_rows_and_costs" 648 KX G
  obtain ⟨f30,fd30,m30,F30⟩:=mkf "_law_anew" zja 363 362 "law_leastdeeds_k03_rows_and_costs" 648 KX G
  obtain ⟨f31,fd31,m31,F31⟩:=mkf "_law_take" zi7 370 369 "law_leastdeeds_k03_rows_and_costs" 648 KX G
  obtain ⟨f64,fd64,m64,F64⟩:=mkf "_law_sign_but" zev 375 374 "law_leastdeeds_k03_rows_and_costs" 648 KX G
  obtain ⟨f65,fd65,m65,F65⟩:=mkf "_law_any_sign" zgq 382 381 "law_leastdeeds_k03_rows_and_costs" 648 KX G
  obtain ⟨f66,fd66,m66,F66⟩:=mkf "_law_signed" zhp 389 388 "law_leastdeeds_k03_rows_and_costs" 648 KX G
  obtain ⟨f67,fd67,m67,F67⟩:=mkf "_law_is_whole" zgp 396 395 "law_leastdeeds_k03_rows_and_costs" 648 KX G
  obtain ⟨f40,fd40,m40,F40⟩:=mkf "_law_same" zgz 401 400 "law_leastdeeds_k03_rows_and_costs" 648 KX G
  obtain ⟨f32,fd32,m32,F32⟩:=mkf "_law_tab" zfa 406 405 "law_leastdeeds_k03_rows_and_costs" 648 KX G
  obtain ⟨f33,fd33,m33,F33⟩:=mkf "_law_deed" zg3 411 410 "law_leastdeeds_k03_rows_and_costs" 648 KX G
  obtain ⟨f34,fd34,m34,F34⟩:=mkf "_law_machine" zg2 418 417 "law_leastdeeds_k03_rows_and_costs" 648 KX G
  obtain ⟨f35,fd35,m35,F35⟩:=mkf "_law_row" zhz 423 422 "law_leastdeeds_k03_rows_and_costs" 648 KX G
  obtain ⟨f89,fd89,m89,F89⟩:=mkf "_law_price" zge 428 427 "law_leastdeeds_k03_rows_and_costs" 648 KX G
  obtain ⟨f68,fd68,m68,F68⟩:=mkf "_law_is_in" zij 435 434 "law_leastdeeds_k03_rows_and_costs" 648 KX G
  obtain ⟨f69,fd69,m69,F69⟩:=mkf "_law_numbers" zfh 440 439 "law_leastdeeds_k03_rows_and_costs" 648 KX G
  obtain ⟨f70,fd70,m70,F70⟩:=mkf "_law_is_deed" zfi 445 444 "law_leastdeeds_k03_rows_and_costs" 648 KX G
  obtain ⟨f71,fd71,m71,F71⟩:=mkf "_law_is_machine" zd7 450 449 "law_leastdeeds_k03_rows_and_costs" 648 KX G
  obtain ⟨f90,fd90,m90,F90⟩:=mkf "_law_row_due" zg0 457 456 "law_leastdeeds_k03_rows_and_costs" 648 KX G
  obtain ⟨f72,fd72,m72,F72⟩:=mkf "_law_bent" zi9 464 463 "law_leastdeeds_k03_rows_and_costs" 648 KX G
  obtain ⟨f75,fd75,m75,F75⟩:=mkf "_law_refusal" zg1 471 470 "law_leastdeeds_k03_rows_and_costs" 648 KX G
  obtain ⟨f91,fd91,m91,F91⟩:=mkf "_law_told" zi6 478 477 "law_leastdeeds_k03_rows_and_costs" 648 KX G
  obtain ⟨f92,fd92,m92,F92⟩:=mkf "_law_odd_rows" zgo 485 484 "law_leastdeeds_k03_rows_and_costs" 648 KX G
  obtain ⟨f93,fd93,m93,F93⟩:=mkf "law" zr9 492 491 "law_leastdeeds_k03_rows_and_costs" 648 KX G
  have z_ValueError:mg "ValueError"=none:=LD.zea KX G (by kernel_rfl)
  have z_all:mg "all"=none:=LD.zea KX G (by kernel_rfl)
  have z_bool:mg "bool"=none:=LD.zea KX G (by kernel_rfl)
  have z_enumerate:mg "enumerate"=none:=LD.zea KX G (by kernel_rfl)
  have z_int:mg "int"=none:=LD.zea KX G (by kernel_rfl)
  have z_isinstance:mg "isinstance"=none:=LD.zea KX G (by kernel_rfl)
  have z_len:mg "len"=none:=LD.zea KX G (by kernel_rfl)
  have z_list:mg "list"=none:=LD.zea KX G (by kernel_rfl)
  have z_range:mg "range"=none:=LD.zea KX G (by kernel_rfl)
  have z_repr:mg "repr"=none:=LD.zea KX G (by kernel_rfl)
  have z_str:mg "str"=none:=LD.zea KX G (by kernel_rfl)
  have z_sum:mg "sum"=none:=LD.zea KX G (by kernel_rfl)
  have z_tuple:mg "tuple"=none:=LD.zea KX G (by kernel_rfl)
  have z_zip:mg "zip"=none:=LD.zea KX G (by kernel_rfl)
  have c_LEAST_WORDS:∃t,mg "LEAST_WORDS"=some (.int 2 t):=LD.zkn (t:=471) KX G (by kernel_rfl)
  have c_LONGEST_ROW:∃t,mg "LONGEST_ROW"=some (.int 40 t):=LD.zkn (t:=481) KX G (by kernel_rfl)
  have c_MOST_COST:∃t,mg "MOST_COST"=some (.int 3 t):=LD.zkn (t:=479) KX G (by kernel_rfl)
  have c_MOST_DEEDS:∃t,mg "MOST_DEEDS"=some (.int 6 t):=LD.zkn (t:=477) KX G (by kernel_rfl)
  have c_MOST_PLACES:∃t,mg "MOST_PLACES"=some (.int 2 t):=LD.zkn (t:=475) KX G (by kernel_rfl)
  have c_MOST_WORDS:∃t,mg "MOST_WORDS"=some (.int 4 t):=LD.zkn (t:=473) KX G (by kernel_rfl)
  have b7:=LD.zc3 (x:="is_turn") (f:=268) KX G (by kernel_rfl)
  have b8:=LD.zc3 (x:="is_join") (f:=275) KX G (by kernel_rfl)
  have b9:=LD.zc3 (x:="is_move") (f:=282) KX G (by kernel_rfl)
  have b10:=LD.zc3 (x:="is_put") (f:=289) KX G (by kernel_rfl)
  have d_SORTS:=LD.z4j (x:="SORTS") (P:=w.params) (fa:=K03.faOf [(0,f0),(1,f1),(2,f2),(3,f3),(4,f4),(5,f5),(6,f6),(7,f7),(8,f8),(9,f9),(10,f10),(11,f11),(12,f12),(13,f13),(16,f16),(17,f17),(18,f18),(47,f47),(19,f19),(28,f28),(29,f29),(30,f30),(31,f31),(64,f64),(65,f65),(66,f66),(67,f67),(40,f40),(32,f32),(33,f33),(34,f34),(35,f35),(89,f89),(68,f68),(69,f69),(70,f70),(71,f71),(90,f90),(72,f72),(75,f75),(91,f91),(92,f92),(93,f93)]) (fs:=LD.zdm) (ad:=290) (es:=#[{hash:=PySem.PyData.keyHash w.params (PySem.Str.ofString "turn"),key:=PySem.Value.str (PySem.Str.ofString "turn") 575,val:=PySem.Value.ref 268},{hash:=PySem.PyData.keyHash w.params (PySem.Str.ofString "join"),key:=PySem.Value.str (PySem.Str.ofString "join") 576,val:=PySem.Value.ref 275},{hash:=PySem.PyData.keyHash w.params (PySem.Str.ofString "move"),key:=PySem.Value.str (PySem.Str.ofString "move") 577,val:=PySem.Value.ref 282},{hash:=PySem.PyData.keyHash w.params (PySem.Str.ofString "put"),key:=PySem.Value.str (PySem.Str.ofString "put") 578,val:=PySem.Value.ref 289}]) (n:=4) KX G (by kernel_rfl) (by kernel_rfl) (by exact LD.zmm (LD.zmm (LD.zmm (LD.zmm (LD.kd_nil))))) (by decide +kernel) (by decide) (by exact LD.zlm rfl m7 b7 (LD.zlm rfl m8 b8 (LD.zlm rfl m9 b9 (LD.zlm rfl m10 b10 (.nil)))))
  have i_NoRow:=LD.z1r (fa:=K03.faOf [(0,f0),(1,f1),(2,f2),(3,f3),(4,f4),(5,f5),(6,f6),(7,f7),(8,f8),(9,f9),(10,f10),(11,f11),(12,f12),(13,f13),(16,f16),(17,f17),(18,f18),(47,f47),(19,f19),(28,f28),(29,f29),(30,f30),(31,f31),(64,f64),(65,f65),(66,f66),(67,f67),(40,f40),(32,f32),(33,f33),(34,f34),(35,f35),(89,f89),(68,f68),(69,f69),(70,f70),(71,f71),(90,f90),(72,f72),(75,f75),(91,f91),(92,f92),(93,f93)]) (w:=w) (c:=0) (x:="NoRow") (qual:="NoRow.__init__") (y:="place") (z:="no deed's number at place ") (pm:="leastdeeds.errors") (t:=187) (st:=zzv) (C:=44) (D:=24) (fI:=41) (cd:=40) KX G (by kernel_rfl) (by kernel_rfl) rfl (by kernel_rfl) (by kernel_rfl) (by kernel_rfl) (by kernel_rfl) ⟨rfl,rfl,rfl,by decide +kernel,rfl,by decide +kernel,by decide +kernel⟩ rfl (fun _ _=>⟨_,rfl⟩) (by decide +kernel) rfl rfl rfl rfl (fun _ _=>rfl) (fun _ _ _ _ _ _ _ _=>rfl)
  have T:=K03.Txt.mk (w:=w) (fa:=K03.faOf [(0,f0),(1,f1),(2,f2),(3,f3),(4,f4),(5,f5),(6,f6),(7,f7),(8,f8),(9,f9),(10,f10),(11,f11),(12,f12),(13,f13),(16,f16),(17,f17),(18,f18),(47,f47),(19,f19),(28,f28),(29,f29),(30,f30),(31,f31),(64,f64),(65,f65),(66,f66),(67,f67),(40,f40),(32,f32),(33,f33),(34,f34),(35,f35),(89,f89),(68,f68),(69,f69),(70,f70),(71,f71),(90,f90),(72,f72),(75,f75),(91,f91),(92,f92),(93,f93)]) (z_ValueError) (z_all) (z_bool) (z_enumerate) (z_int) (z_isinstance) (z_len) (z_list) (z_range) (z_repr) (z_str) (z_sum) (z_tuple) (z_zip) (c_LEAST_WORDS) (c_LONGEST_ROW) (c_MOST_COST) (c_MOST_DEEDS) (c_MOST_PLACES) (c_MOST_WORDS) (d_SORTS) (LD.xcs_of (by kernel_rfl)) (⟨24,LD.zc3 (x:="DeedError") (f:=24) KX G (by kernel_rfl),rfl⟩) (⟨44,LD.zc3 (x:="NoRow") (f:=44) KX G (by kernel_rfl),rfl⟩) (⟨63,LD.zc3 (x:="NoRule") (f:=63) KX G (by kernel_rfl),rfl⟩) (⟨82,LD.zc3 (x:="NoStep") (f:=82) KX G (by kernel_rfl),rfl⟩) (⟨94,LD.zc3 (x:="NoMachine") (f:=94) KX G (by kernel_rfl),rfl⟩) (⟨106,LD.zc3 (x:="TooLong") (f:=106) KX G (by kernel_rfl),rfl⟩) (⟨118,LD.zc3 (x:="NoWord") (f:=118) KX G (by kernel_rfl),rfl⟩) (⟨130,LD.zc3 (x:="NoWork") (f:=130) KX G (by kernel_rfl),rfl⟩) (⟨142,LD.zc3 (x:="NoBound") (f:=142) KX G (by kernel_rfl),rfl⟩) (⟨154,LD.zc3 (x:="TooMany") (f:=154) KX G (by kernel_rfl),rfl⟩) (⟨166,LD.zc3 (x:="NoPlace") (f:=166) KX G (by kernel_rfl),rfl⟩) (⟨178,LD.zc3 (x:="NoDeed") (f:=178) KX G (by kernel_rfl),rfl⟩) (⟨190,LD.zc3 (x:="Nothing") (f:=190) KX G (by kernel_rfl),rfl⟩) (⟨202,LD.zc3 (x:="NoText") (f:=202) KX G (by kernel_rfl),rfl⟩) (⟨214,LD.zc3 (x:="NoLine") (f:=214) KX G (by kernel_rfl),rfl⟩) (⟨94,LD.zc3 (x:="NoMachine") (f:=94) KX G (by kernel_rfl),rfl,by kernel_rfl⟩) (⟨106,LD.zc3 (x:="TooLong") (f:=106) KX G (by kernel_rfl),rfl,by kernel_rfl⟩) (i_NoRow) (LD.zw4 (by kernel_rfl)) (LD.zw4 (by kernel_rfl)) (LD.mm rfl m0) (LD.mm rfl m1) (LD.mm rfl m2) (LD.mm rfl m3) (LD.mm rfl m4) (LD.mm rfl m5) (LD.mm rfl m6) (LD.mm rfl m11) (LD.mm rfl m12) (LD.mm rfl m13) (LD.mm rfl m16) (LD.mm rfl m17) (LD.mm rfl m18) (LD.mm rfl m19) (LD.mm rfl m28) (LD.mm rfl m29) (LD.mm rfl m30) (LD.mm rfl m31) (LD.mm rfl m32) (LD.mm rfl m33) (LD.mm rfl m34) (LD.mm rfl m35) (LD.mm rfl m40) (LD.mm rfl m47) (LD.mm rfl m64) (LD.mm rfl m65) (LD.mm rfl m66) (LD.mm rfl m67) (LD.mm rfl m68) (LD.mm rfl m69) (LD.mm rfl m70) (LD.mm rfl m71) (LD.mm rfl m72) (LD.mm rfl m75) (LD.mm rfl m89) (LD.mm rfl m90) (LD.mm rfl m91) (LD.mm rfl m92)
  have e:=hmg.symm.trans m93
  cases e
  exact ⟨fd93,fun s v=>by
   obtain ⟨oc,od,kV,doc,pm,an,cdv,ct,osl,rfl,lk,hcd⟩:=F93.ex
   exact .of_eq rfl,fun base _ _=>LD.law_fn (n:=39) (f:=93) (K03.z49 F0 F1 F2 F3 F4 F5 F6 F7 F8 F9 F10 F11 F12 F13 F16 F17 F18 F47 F19 F28 F29 F30 F31 F64 F65 F66 F67 F40 F32 F33 F34 F35 F89 F68 F69 F70 F71 F90 F72 F75 F91 F92 F93 T) K03.z1k rfl F93 (K03.scp (ps:=["script"]) K03.zji) rfl fun c n a b d s H E C hr=>K03.p_law T c n a b d s H E C hr⟩
